import PyProof.Rows.All
import Wide.All
import OpenK.AllK
import Wide.FinOn
import Open.SpecLaws
import KE.OsGo
import HandS.ForSpec
import HandS.Comp
import HandS.IsInst
import HandS.Wide
import HandS.Iter
import HandS.Walk
import PySem.Challenge.RW_surelytold_s01_answers
set_option Elab.async false
/-! Fractions of the specification: what Q.of gives, order, floor, rest, on any pair that stands for the fraction. Core Lean alone. -/
namespace TQ
open Re04
/-- in lowest terms, below above 0 -/
structure Red (x : Q) : Prop where
  pos : 0 < x.d
  cop : Nat.Coprime x.n.natAbs x.d
/-- x is the fraction n by d -/
def Is (x : Q) (n d : Int) : Prop := x.n * d = n * x.d
theorem of_pos (n d : Int) (h : 0 < d) : Q.of n d = ⟨n / (Int.gcd n d : Int), d.toNat / (Int.gcd n d)⟩ := by
  unfold Q.of
  simp only
  rw [if_neg (by omega)]
  rfl
theorem of_neg (n d : Int) (h : d < 0) : Q.of n d = Q.of (0 - n) (0 - d) := by
  rw [of_pos (0 - n) (0 - d) (by omega)]
  unfold Q.of
  simp only
  rw [if_pos h]
  have e : Int.gcd (0 - n) (0 - d) = Int.gcd n d := by
    rw [Int.zero_sub, Int.zero_sub, Int.gcd_neg, Int.neg_gcd]
  rw [e]
  rfl
theorem of_pos_spec (n d : Int) (h : 0 < d) : Red (Q.of n d) ∧ Is (Q.of n d) n d := by
  rw [of_pos n d h]
  obtain ⟨m, rfl⟩ : ∃ m : Nat, d = (m : Int) := ⟨d.toNat, by omega⟩
  have hm : 0 < m := by omega
  have hg : 0 < Int.gcd n m := Int.gcd_pos_of_ne_zero_right n (by omega)
  obtain ⟨a, ha⟩ := Int.gcd_dvd_left n m
  obtain ⟨b, hb⟩ := Int.gcd_dvd_right n m
  have hge : Int.gcd n m = Nat.gcd n.natAbs m := by
    unfold Int.gcd
    simp
  generalize hG : Int.gcd n m = g at *
  have ea : n / (g : Int) = a := by rw [ha]; exact Int.mul_ediv_cancel_left _ (by omega)
  have hb' : m = g * b.toNat := by
    have b0 : 0 ≤ b := by
      rcases Int.le_total 0 b with h0 | h0
      · exact h0
      · have := Int.mul_nonneg (show (0:Int) ≤ g by omega) (show 0 ≤ -b by omega)
        have h2 : (g:Int) * -b = -((g:Int)*b) := Int.mul_neg _ _
        omega
    have : (m : Int) = ((g * b.toNat : Nat) : Int) := by
      rw [Int.natCast_mul, Int.toNat_of_nonneg b0]; exact hb
    exact Int.ofNat.inj this
  have eb : m / g = b.toNat := by
    rw [hb']; exact Nat.mul_div_cancel_left _ hg
  simp only [Int.toNat_natCast, ea, eb]
  constructor
  · refine ⟨?_, ?_⟩
    · show 0 < b.toNat
      rcases Nat.eq_zero_or_pos b.toNat with h0 | h0
      · rw [h0] at hb'; omega
      · exact h0
    · show Nat.Coprime a.natAbs b.toNat
      have q := Nat.coprime_div_gcd_div_gcd (m := n.natAbs) (n := m) (by omega)
      rw [← hge, eb] at q
      have : n.natAbs / g = a.natAbs := by
        rw [ha, Int.natAbs_mul]; exact Nat.mul_div_cancel_left _ hg
      rw [this] at q
      exact q
  · show a * (m : Int) = n * ((b.toNat : Nat) : Int)
    have e1 : (m : Int) = (g : Int) * (b.toNat : Int) := by rw [← Int.natCast_mul, ← hb']
    rw [e1, ha, Int.mul_left_comm, Int.mul_assoc]
theorem of_spec (n d : Int) (h : d ≠ 0) : Red (Q.of n d) ∧ Is (Q.of n d) n d := by
  rcases Int.lt_or_gt_of_ne h with h1 | h1
  · rw [of_neg n d h1]
    obtain ⟨r, i⟩ := of_pos_spec (0 - n) (0 - d) (by omega)
    refine ⟨r, ?_⟩
    unfold Is at *
    generalize Q.of (0 - n) (0 - d) = x at *
    grind
  · exact of_pos_spec n d h1
/-- two fractions in lowest terms that are the same number are the same -/
theorem red_unique {x y : Q} (hx : Red x) (hy : Red y) (h : x.n * y.d = y.n * x.d) : x = y := by
  have e : x.n.natAbs * y.d = y.n.natAbs * x.d := by
    have := congrArg Int.natAbs h
    simpa [Int.natAbs_mul] using this
  have d1 : x.d ∣ y.d := hx.cop.symm.dvd_of_dvd_mul_left ⟨y.n.natAbs, by rw [e, Nat.mul_comm]⟩
  have d2 : y.d ∣ x.d := hy.cop.symm.dvd_of_dvd_mul_left ⟨x.n.natAbs, by rw [← e, Nat.mul_comm]⟩
  have ed : x.d = y.d := Nat.dvd_antisymm d1 d2
  have en : x.n = y.n := by
    rw [ed] at h
    have : (y.d : Int) ≠ 0 := by have := hy.pos; omega
    exact Int.eq_of_mul_eq_mul_right this h
  cases x; cases y; simp_all
theorem Is.uniq {x y : Q} {n d : Int} (hx : Red x) (hy : Red y) (h : d ≠ 0) (h1 : Is x n d) (h2 : Is y n d) : x = y := by
  refine red_unique hx hy ?_
  unfold Is at *
  have : (x.n * y.d) * d = (y.n * x.d) * d := by grind
  exact Int.eq_of_mul_eq_mul_right h this
theorem of_is {x : Q} {n d : Int} (hx : Red x) (h : d ≠ 0) (h1 : Is x n d) : Q.of n d = x :=
  Is.uniq (of_spec n d h).1 hx h (of_spec n d h).2 h1
theorem of_self {x : Q} (hx : Red x) : Q.of x.n x.d = x := of_is hx (by have := hx.pos; omega) rfl
theorem of_eq_of {n d m e : Int} (h : d ≠ 0) (h' : e ≠ 0) : Q.of n d = Q.of m e ↔ n * e = m * d := by
  obtain ⟨r1, i1⟩ := of_spec n d h
  obtain ⟨r2, i2⟩ := of_spec m e h'
  unfold Is at *
  constructor
  · intro q
    rw [← q] at i2
    generalize hx : Q.of n d = x at *
    have hp : (x.d : Int) ≠ 0 := by have := r1.pos; omega
    have : (n * e) * x.d = (m * d) * x.d := by grind
    exact Int.eq_of_mul_eq_mul_right hp this
  · intro q
    refine red_unique r1 r2 ?_
    generalize Q.of n d = x at *
    generalize Q.of m e = y at *
    have hde : d * e ≠ 0 := Int.mul_ne_zero h h'
    have : (x.n * y.d) * (d * e) = (y.n * x.d) * (d * e) := by grind
    exact Int.eq_of_mul_eq_mul_right hde this
/-- order by any two pairs with the one below above 0 -/
theorem lt_of_is {x y : Q} {n d m e : Int} (hx : 0 < x.d) (hy : 0 < y.d) (hd : 0 < d) (he : 0 < e) (h1 : Is x n d) (h2 : Is y m e) : x.lt y = decide (n * e < m * d) := by
  unfold Q.lt
  unfold Is at *
  refine decide_eq_decide.mpr ?_
  have px : (0:Int) < x.d := by omega
  have py : (0:Int) < y.d := by omega
  have k1 : x.n * y.d * (d * e) = n * e * (x.d * y.d) := by grind
  have k2 : y.n * x.d * (d * e) = m * d * (x.d * y.d) := by grind
  have pd : 0 < d * e := Int.mul_pos hd he
  have pq : (0:Int) < x.d * y.d := Int.mul_pos px py
  constructor
  · intro h
    refine Int.lt_of_mul_lt_mul_right ?_ (Int.le_of_lt pq)
    rw [← k1, ← k2]
    exact Int.mul_lt_mul_of_pos_right h pd
  · intro h
    refine Int.lt_of_mul_lt_mul_right ?_ (Int.le_of_lt pd)
    rw [k1, k2]
    exact Int.mul_lt_mul_of_pos_right h pq
theorem ediv_of_cross {n d m e : Int} (hd : 0 < d) (he : 0 < e) (h : n * e = m * d) : n / d = m / e := by
  have a : n / d = (n * e) / (d * e) := by rw [Int.mul_comm n e, Int.mul_comm d e]; exact (Int.mul_ediv_mul_of_pos n d he).symm
  have b : m / e = (m * d) / (e * d) := by rw [Int.mul_comm m d, Int.mul_comm e d]; exact (Int.mul_ediv_mul_of_pos m e hd).symm
  rw [a, b, h, Int.mul_comm e d]
theorem floor_of_is {x : Q} {n d : Int} (hx : 0 < x.d) (hd : 0 < d) (h : Is x n d) : x.floor = n / d := by
  unfold Q.floor
  exact ediv_of_cross (by omega) hd (by unfold Is at h; rw [h])
/-- the rest of a fraction in lowest terms is in lowest terms as it stands -/
theorem rest_eq {x : Q} {a : Int} (hx : Red x) (h : 0 < x.n - a * x.d) : x.rest a = ⟨x.d, (x.n - a * x.d).toNat⟩ := by
  unfold Q.rest
  refine of_is (x := ⟨x.d, (x.n - a * x.d).toNat⟩) ⟨by show 0 < (x.n - a * x.d).toNat; omega, ?_⟩ (by omega) ?_
  · show Nat.Coprime (x.d : Int).natAbs (x.n - a * x.d).toNat
    rw [Int.natAbs_natCast]
    have e : (x.n - a * x.d).toNat = (x.n - a * x.d).natAbs := by omega
    rw [e]
    have c := hx.cop
    have c2 : Int.gcd x.n x.d = 1 := by
      unfold Int.gcd; rw [Int.natAbs_natCast]; exact c
    show Nat.gcd x.d (x.n - a * x.d).natAbs = 1
    have : Int.gcd (x.d : Int) (x.n - a * x.d) = 1 := by
      rw [Int.gcd_sub_mul_right_right] <;> first | (rw [Int.gcd_comm]; exact c2) | skip
    unfold Int.gcd at this
    rwa [Int.natAbs_natCast] at this
  · unfold Is
    show (x.d : Int) * (x.n - a * x.d) = x.d * ((x.n - a * x.d).toNat : Int)
    rw [Int.toNat_of_nonneg (by omega)]
theorem rest_red {x : Q} {a : Int} (h : x.n - a * x.d ≠ 0) : Red (x.rest a) := (of_spec _ _ h).1
end TQ

/-! A fraction's terms and a range's sure terms, turn by turn, free of their fuel; how many there are. Core Lean alone. -/
namespace TQ
open Re04
theorem floor_le {x : Q} (h : 0 < x.d) : x.floor * x.d ≤ x.n ∧ x.n < x.floor * x.d + x.d := by
  unfold Q.floor
  have p : (0 : Int) < x.d := by omega
  have a := Int.mul_ediv_add_emod x.n x.d
  have b := Int.emod_nonneg x.n (show (x.d : Int) ≠ 0 by omega)
  have c := Int.emod_lt_of_pos x.n p
  rw [Int.mul_comm] at a
  omega
theorem rest_d {x : Q} (hx : Red x) (h : x.n - x.floor * x.d ≠ 0) : x.rest x.floor = ⟨x.d, (x.n - x.floor * x.d).toNat⟩ := by
  have := floor_le hx.pos
  exact rest_eq hx (by omega)
theorem terms_fuel : ∀ (f g : Nat) (x : Q), Red x → x.d < f → x.d < g → Re04.terms f x = Re04.terms g x
  | 0, _, _, _, h, _ => absurd h (Nat.not_lt_zero _)
  | _, 0, _, _, _, h => absurd h (Nat.not_lt_zero _)
  | f + 1, g + 1, x, hx, h1, h2 => by
    unfold Re04.terms
    by_cases c : x.n - x.floor * x.d = 0
    · rw [if_pos c, if_pos c]
    · rw [if_neg c, if_neg c]
      have e := rest_d hx c
      have b := floor_le hx.pos
      refine congrArg _ (terms_fuel f g _ (rest_red c) ?_ ?_)
      · rw [e]; show (x.n - x.floor * x.d).toNat < f; omega
      · rw [e]; show (x.n - x.floor * x.d).toNat < g; omega
theorem terms_last {x : Q} (c : x.n - x.floor * x.d = 0) : x.terms = [x.floor] := by
  unfold Q.terms Re04.terms
  rw [if_pos c]
theorem terms_more {x : Q} (hx : Red x) (c : x.n - x.floor * x.d ≠ 0) : x.terms = x.floor :: (x.rest x.floor).terms := by
  have b := floor_le hx.pos
  unfold Q.terms
  conv => lhs; unfold Re04.terms
  rw [if_neg c]
  refine congrArg _ (terms_fuel _ _ _ (rest_red c) ?_ ?_)
  · rw [rest_d hx c]; show (x.n - x.floor * x.d).toNat < x.d; omega
  · omega
theorem terms_ne (x : Q) : x.terms ≠ [] := by
  unfold Q.terms Re04.terms
  split <;> simp
theorem terms_len : ∀ (k : Nat) (x : Q), Red x → x.d < 2 ^ k → x.terms.length ≤ 2 * k
  | 0, x, hx, h => by have := hx.pos; simp at h; omega
  | k + 1, x, hx, h => by
    by_cases c : x.n - x.floor * x.d = 0
    · rw [terms_last c]; simp; omega
    · rw [terms_more hx c]
      have e := rest_d hx c
      have hy : Red (x.rest x.floor) := rest_red c
      have b := floor_le hx.pos
      generalize hY : x.rest x.floor = y at *
      by_cases c2 : y.n - y.floor * y.d = 0
      · rw [terms_last c2]; simp; omega
      · rw [terms_more hy c2]
        have e2 := rest_d hy c2
        have hz : Red (y.rest y.floor) := rest_red c2
        have b2 := floor_le hy.pos
        have yn : y.n = x.d := by rw [e]
        have yd : (y.d : Int) = x.n - x.floor * x.d := by rw [e]; show ((x.n - x.floor * x.d).toNat : Int) = _; omega
        have zd : ((y.rest y.floor).d : Int) = y.n - y.floor * y.d := by rw [e2]; show ((y.n - y.floor * y.d).toNat : Int) = _; omega
        have one : 1 ≤ y.floor := by
          unfold Q.floor
          refine (Int.le_ediv_iff_mul_le (by have := hy.pos; omega)).mpr ?_
          omega
        have m : (y.d : Int) ≤ y.floor * y.d := by
          have := Int.mul_le_mul_of_nonneg_right one (show (0:Int) ≤ y.d by omega)
          omega
        have := terms_len k (y.rest y.floor) hz (by rw [Nat.pow_succ] at h; omega)
        simp only [List.length_cons]
        omega
/-- a range as it should be -/
structure Ok (r : Range) : Prop where
  lo : Red r.lo
  hi : Red r.hi
  le : r.lo.n * r.hi.d ≤ r.hi.n * r.lo.d
/-- the range of one by (it less a) -/
def nxt (r : Range) : Range := ⟨r.hi.rest r.lo.floor, r.hiIn, r.lo.rest r.lo.floor, r.loIn⟩
theorem lt_iff {x y : Q} : x.lt y = true ↔ x.n * y.d < y.n * x.d := by unfold Q.lt; exact decide_eq_true_iff
theorem sameFloor_le {r : Range} (h : sameFloor r = true) : r.hi.n ≤ (r.lo.floor + 1) * r.hi.d := by
  unfold sameFloor at h
  rcases (Bool.or_eq_true _ _).mp h with h | h
  · have h := lt_iff.mp h
    have h : r.hi.n * (1 : Nat) < (r.lo.floor + 1) * r.hi.d := h
    omega
  · have h := of_decide_eq_true ((Bool.and_eq_true _ _).mp h).1
    have e1 : r.hi.n = r.lo.floor + 1 := by rw [h]
    have e2 : r.hi.d = 1 := by rw [h]
    rw [e1, e2]; omega
theorem Ok.hi_above {r : Range} (h : Ok r) (ne : r.lo ≠ r.hi) : 0 < r.hi.n - r.lo.floor * r.hi.d := by
  have b := floor_le h.lo.pos
  have p := h.lo.pos
  have q := h.hi.pos
  have l := h.le
  have l2 : r.lo.n * r.hi.d ≠ r.hi.n * r.lo.d := fun e => ne (red_unique h.lo h.hi e)
  have m : r.lo.floor * r.lo.d * r.hi.d ≤ r.lo.n * r.hi.d := Int.mul_le_mul_of_nonneg_right b.1 (by omega)
  have k : (r.lo.floor * r.hi.d) * r.lo.d < r.hi.n * r.lo.d := by
    have : (r.lo.floor * r.hi.d) * r.lo.d = r.lo.floor * r.lo.d * r.hi.d := by grind
    omega
  have := Int.lt_of_mul_lt_mul_right k (by omega)
  omega
theorem Ok.nxt {r : Range} (h : Ok r) (ne : r.lo ≠ r.hi) (c : r.lo.n - r.lo.floor * r.lo.d ≠ 0) : Ok (nxt r) := by
  have a := h.hi_above ne
  have b := floor_le h.lo.pos
  refine ⟨rest_red (by omega), rest_red c, ?_⟩
  show (r.hi.rest r.lo.floor).n * ((r.lo.rest r.lo.floor).d : Int) ≤ (r.lo.rest r.lo.floor).n * ((r.hi.rest r.lo.floor).d : Int)
  rw [rest_eq h.hi a, rest_eq h.lo (show 0 < r.lo.n - r.lo.floor * r.lo.d by omega)]
  show (r.hi.d : Int) * ((r.lo.n - r.lo.floor * r.lo.d).toNat : Int) ≤ (r.lo.d : Int) * ((r.hi.n - r.lo.floor * r.hi.d).toNat : Int)
  rw [Int.toNat_of_nonneg (by omega), Int.toNat_of_nonneg (by omega)]
  have l := h.le
  have e1 : (r.hi.d : Int) * (r.lo.n - r.lo.floor * r.lo.d) = r.lo.n * r.hi.d - r.lo.floor * r.lo.d * r.hi.d := by grind
  have e2 : (r.lo.d : Int) * (r.hi.n - r.lo.floor * r.hi.d) = r.hi.n * r.lo.d - r.lo.floor * r.lo.d * r.hi.d := by grind
  rw [e1, e2]
  omega
theorem nxt_d {r : Range} (h : Ok r) (ne : r.lo ≠ r.hi) (s : sameFloor r = true) (c : r.lo.n - r.lo.floor * r.lo.d ≠ 0) : (nxt r).lo.d + (nxt r).hi.d < r.lo.d + r.hi.d := by
  have a := h.hi_above ne
  have b := floor_le h.lo.pos
  have t := sameFloor_le s
  have t2 : (r.lo.floor + 1) * (r.hi.d : Int) = r.lo.floor * r.hi.d + r.hi.d := by grind
  show (r.hi.rest r.lo.floor).d + (r.lo.rest r.lo.floor).d < _
  rw [rest_eq h.hi a, rest_eq h.lo (show 0 < r.lo.n - r.lo.floor * r.lo.d by omega)]
  show (r.hi.n - r.lo.floor * r.hi.d).toNat + (r.lo.n - r.lo.floor * r.lo.d).toNat < _
  omega
theorem sure_fuel : ∀ (f g : Nat) (r : Range), Ok r → r.lo.d + r.hi.d < f → r.lo.d + r.hi.d < g → Re04.sure f r = Re04.sure g r
  | 0, _, _, _, h, _ => absurd h (Nat.not_lt_zero _)
  | _, 0, _, _, _, h => absurd h (Nat.not_lt_zero _)
  | f + 1, g + 1, r, hr, h1, h2 => by
    unfold Re04.sure
    by_cases ne : r.lo = r.hi
    · rw [if_pos ne, if_pos ne]
    · rw [if_neg ne, if_neg ne]
      by_cases s : sameFloor r = false
      · rw [if_pos s, if_pos s]
      · rw [if_neg s, if_neg s]
        have s' : sameFloor r = true := by simpa using s
        simp only
        by_cases c : r.lo.n - r.lo.floor * r.lo.d = 0
        · rw [if_pos c, if_pos c]
        · rw [if_neg c, if_neg c]
          have k := nxt_d hr ne s' c
          have := sure_fuel f g (nxt r) (hr.nxt ne c) (by omega) (by omega)
          unfold TQ.nxt at this
          rw [this]
theorem sure_one {r : Range} (e : r.lo = r.hi) : r.sure = ⟨r.lo.terms, true⟩ := by
  unfold Range.sure Re04.sure
  rw [if_pos e]
theorem sure_none {r : Range} (ne : r.lo ≠ r.hi) (s : sameFloor r = false) : r.sure = ⟨[], false⟩ := by
  unfold Range.sure Re04.sure
  rw [if_neg ne, if_pos s]
theorem sure_last {r : Range} (ne : r.lo ≠ r.hi) (s : sameFloor r = true) (c : r.lo.n - r.lo.floor * r.lo.d = 0) : r.sure = ⟨[r.lo.floor], false⟩ := by
  unfold Range.sure Re04.sure
  rw [if_neg ne, if_neg (by rw [s]; simp)]
  simp only
  rw [if_pos c]
theorem sure_more {r : Range} (hr : Ok r) (ne : r.lo ≠ r.hi) (s : sameFloor r = true) (c : r.lo.n - r.lo.floor * r.lo.d ≠ 0) : r.sure = ⟨r.lo.floor :: (nxt r).sure.terms, (nxt r).sure.ended⟩ := by
  unfold Range.sure
  conv => lhs; unfold Re04.sure
  rw [if_neg ne, if_neg (by rw [s]; simp)]
  simp only
  rw [if_neg c]
  have k := nxt_d hr ne s c
  have := sure_fuel (r.lo.d + r.hi.d + 1) ((nxt r).lo.d + (nxt r).hi.d + 2) (nxt r) (hr.nxt ne c) (by omega) (by omega)
  rw [← this]
  rfl
/-- how many sure terms there are -/
theorem sure_len : ∀ (k : Nat) (r : Range), Ok r → r.lo.d < 2 ^ k → r.hi.d < 2 ^ k → r.sure.terms.length ≤ 2 * k
  | 0, r, hr, h, _ => by have := hr.lo.pos; simp at h; omega
  | k + 1, r, hr, h, h' => by
    by_cases e : r.lo = r.hi
    · rw [sure_one e]; exact terms_len (k + 1) _ hr.lo h
    · by_cases s : sameFloor r = true
      · by_cases c : r.lo.n - r.lo.floor * r.lo.d = 0
        · rw [sure_last e s c]; simp; omega
        · rw [sure_more hr e s c]
          have hn := hr.nxt e c
          have a := hr.hi_above e
          have b := floor_le hr.lo.pos
          have t := sameFloor_le s
          have t2 : (r.lo.floor + 1) * (r.hi.d : Int) = r.lo.floor * r.hi.d + r.hi.d := by grind
          have en : nxt r = ⟨⟨r.hi.d, (r.hi.n - r.lo.floor * r.hi.d).toNat⟩, r.hiIn, ⟨r.lo.d, (r.lo.n - r.lo.floor * r.lo.d).toNat⟩, r.loIn⟩ := by
            unfold TQ.nxt
            rw [rest_eq hr.hi a, rest_eq hr.lo (show 0 < r.lo.n - r.lo.floor * r.lo.d by omega)]
          generalize hR : nxt r = r' at *
          by_cases e' : r'.lo = r'.hi
          · rw [sure_one e']
            have e1 : r'.lo.d = r'.hi.d := by rw [e']
            have q1 : r'.hi.d = (r.lo.n - r.lo.floor * r.lo.d).toNat := by rw [en]
            have q2 : r'.hi.n = r.lo.d := by rw [en]
            have hh : Red r'.hi := hn.hi
            rw [e']
            by_cases c2 : r'.hi.n - r'.hi.floor * r'.hi.d = 0
            · rw [terms_last c2]; simp; omega
            · rw [terms_more hh c2]
              have b2 := floor_le hh.pos
              have zd : ((r'.hi.rest r'.hi.floor).d : Int) = r'.hi.n - r'.hi.floor * r'.hi.d := by rw [rest_d hh c2]; show ((_ : Int).toNat : Int) = _; omega
              have one : 1 ≤ r'.hi.floor := by
                unfold Q.floor
                refine (Int.le_ediv_iff_mul_le (by have := hh.pos; omega)).mpr ?_
                omega
              have m : (r'.hi.d : Int) ≤ r'.hi.floor * r'.hi.d := by
                have := Int.mul_le_mul_of_nonneg_right one (show (0:Int) ≤ r'.hi.d by omega)
                omega
              have := terms_len k (r'.hi.rest r'.hi.floor) (rest_red c2) (by rw [Nat.pow_succ] at h; omega)
              simp only [List.length_cons]
              omega
          · by_cases s' : sameFloor r' = true
            · by_cases c2 : r'.lo.n - r'.lo.floor * r'.lo.d = 0
              · rw [sure_last e' s' c2]; simp; omega
              · rw [sure_more hn e' s' c2]
                have a2 := hn.hi_above e'
                have b2 := floor_le hn.lo.pos
                have u := sameFloor_le s'
                have u2 : (r'.lo.floor + 1) * (r'.hi.d : Int) = r'.lo.floor * r'.hi.d + r'.hi.d := by grind
                have hn2 := hn.nxt e' c2
                have d1 : ((nxt r').lo.d : Int) = r'.hi.n - r'.lo.floor * r'.hi.d := by
                  show ((r'.hi.rest r'.lo.floor).d : Int) = _
                  rw [rest_eq hn.hi a2]; show ((_ : Int).toNat : Int) = _; omega
                have d2 : ((nxt r').hi.d : Int) = r'.lo.n - r'.lo.floor * r'.lo.d := by
                  show ((r'.lo.rest r'.lo.floor).d : Int) = _
                  rw [rest_eq hn.lo (show 0 < r'.lo.n - r'.lo.floor * r'.lo.d by omega)]; show ((_ : Int).toNat : Int) = _; omega
                have l1 : r'.lo.n = r.hi.d := by rw [en]
                have l2 : (r'.lo.d : Int) = r.hi.n - r.lo.floor * r.hi.d := by rw [en]; show ((_ : Int).toNat : Int) = _; omega
                have l3 : r'.hi.n = r.lo.d := by rw [en]
                have l4 : (r'.hi.d : Int) = r.lo.n - r.lo.floor * r.lo.d := by rw [en]; show ((_ : Int).toNat : Int) = _; omega
                have one : 1 ≤ r'.lo.floor := by
                  unfold Q.floor
                  refine (Int.le_ediv_iff_mul_le (by have := hn.lo.pos; omega)).mpr ?_
                  omega
                have m1 : (r'.lo.d : Int) ≤ r'.lo.floor * r'.lo.d := by
                  have := Int.mul_le_mul_of_nonneg_right one (show (0:Int) ≤ r'.lo.d by omega)
                  omega
                have m2 : (r'.hi.d : Int) ≤ r'.lo.floor * r'.hi.d := by
                  have := Int.mul_le_mul_of_nonneg_right one (show (0:Int) ≤ r'.hi.d by omega)
                  omega
                rw [Nat.pow_succ] at h h'
                have := sure_len k (nxt r') hn2 (by omega) (by omega)
                simp only [List.length_cons]
                omega
            · rw [sure_none e' (by simpa using s')]; simp; omega
      · rw [sure_none e (by simpa using s)]; simp
end TQ

/-! What some terms make; sizes. Core Lean alone. -/
namespace TQ
open Re04
/-- all but the first are 1 or more -/
def Tail (l : List Int) : Prop := ∀ t ∈ l.tail, 1 ≤ t
theorem Tail.tl {a : Int} {l : List Int} (h : Tail (a :: l)) : ∀ t ∈ l, 1 ≤ t := h
theorem ofTerms_one (a : Int) : ofTerms [a] = some ⟨a, 1⟩ := rfl
theorem red_whole (a : Int) : Red ⟨a, 1⟩ := ⟨by show 0 < 1; omega, by show Nat.Coprime a.natAbs 1; exact Nat.coprime_one_right _⟩
/-- one term ahead of a number above 0 -/
theorem cons_eq {x : Q} (a : Int) (hx : Red x) (h : 0 < x.n) : Q.of (a * x.n + x.d) x.n = ⟨a * x.n + x.d, x.n.toNat⟩ ∧ Red ⟨a * x.n + x.d, x.n.toNat⟩ := by
  have r : Red ⟨a * x.n + x.d, x.n.toNat⟩ := by
    refine ⟨by show 0 < x.n.toNat; omega, ?_⟩
    show Nat.Coprime (a * x.n + x.d).natAbs x.n.toNat
    have c : Int.gcd x.d x.n = 1 := by
      unfold Int.gcd
      rw [Int.natAbs_natCast, Nat.gcd_comm]
      exact hx.cop
    have c2 : Int.gcd (a * x.n + x.d) x.n = 1 := by
      rw [Int.add_comm, Int.gcd_add_mul_right_left] <;> first | exact c | skip
    unfold Int.gcd at c2
    have e : x.n.toNat = x.n.natAbs := by omega
    rw [e]
    exact c2
  refine ⟨of_is r (by omega) ?_, r⟩
  show (a * x.n + x.d) * x.n = (a * x.n + x.d) * (x.n.toNat : Int)
  rw [Int.toNat_of_nonneg (by omega)]
theorem ofTerms_cons {a : Int} {l : List Int} {x : Q} (e : ofTerms l = some x) (hx : Red x) (h : 0 < x.n) : ofTerms (a :: l) = some ⟨a * x.n + x.d, x.n.toNat⟩ := by
  cases l with
  | nil => cases e
  | cons b m =>
    show (ofTerms (b :: m)).map (fun x => Q.of (a * x.n + x.d) x.n) = _
    rw [e]
    exact congrArg some (cons_eq a hx h).1
theorem ofTerms_pos : ∀ (l : List Int), l ≠ [] → (∀ t ∈ l, 1 ≤ t) → ∃ x, ofTerms l = some x ∧ Red x ∧ (x.d : Int) ≤ x.n
  | [], h, _ => absurd rfl h
  | [a], _, h => ⟨⟨a, 1⟩, rfl, red_whole a, by have := h a (by simp); show (1 : Int) ≤ a; exact this⟩
  | a :: b :: l, _, h => by
    obtain ⟨x, e, r, p⟩ := ofTerms_pos (b :: l) (by simp) (fun t m => h t (by simp at m ⊢; right; exact m))
    have q := r.pos
    refine ⟨_, ofTerms_cons e r (by omega), (cons_eq a r (by omega)).2, ?_⟩
    show (x.n.toNat : Int) ≤ a * x.n + x.d
    have := h a (by simp)
    have := Int.mul_le_mul_of_nonneg_right this (show 0 ≤ x.n by omega)
    omega
theorem ofTerms_ok (l : List Int) (hl : l ≠ []) (h : Tail l) : ∃ x, ofTerms l = some x ∧ Red x := by
  match l, hl, h with
  | [a], _, _ => exact ⟨_, rfl, red_whole a⟩
  | a :: b :: l, _, h =>
    obtain ⟨x, e, r, p⟩ := ofTerms_pos (b :: l) (by simp) h.tl
    have := r.pos
    exact ⟨_, ofTerms_cons e r (by omega), (cons_eq a r (by omega)).2⟩
theorem more_ne {l : List Int} (h : l ≠ []) : more l ≠ [] := by
  match l, h with
  | [a], _ => simp [more]
  | a :: b :: l, _ => simp [more]
theorem more_cons (a b : Int) (l : List Int) : more (a :: b :: l) = a :: more (b :: l) := rfl
theorem more_pos : ∀ {l : List Int}, (∀ t ∈ l, 1 ≤ t) → ∀ t ∈ more l, 1 ≤ t
  | [], _ => by simp [more]
  | [a], h => by
    intro t m
    have : t = a + 1 := by simpa [more] using m
    have := h a (by simp)
    omega
  | a :: b :: l, h => by
    rw [more_cons]
    intro t m
    rcases List.mem_cons.mp m with e | m
    · rw [e]; exact h a (by simp)
    · exact more_pos (l := b :: l) (fun t m => h t (by simp at m ⊢; right; exact m)) t m
theorem more_tail {l : List Int} (h : Tail l) : Tail (more l) := by
  match l, h with
  | [], _ => exact fun t m => by simp [more] at m
  | [a], _ => exact fun t m => by simp [more] at m
  | a :: b :: l, h =>
    rw [more_cons]
    exact more_pos h.tl
theorem more_snoc (l : List Int) (a : Int) : more (l ++ [a]) = l ++ [a + 1] := by
  induction l with
  | nil => rfl
  | cons b l ih =>
    cases l with
    | nil => rfl
    | cons c l =>
      show b :: more (c :: l ++ [a]) = _
      have : c :: l ++ [a] = (c :: l) ++ [a] := rfl
      rw [ih]
      rfl
/-- within b bits -/
structure Sz (b : Nat) (x : Q) : Prop where
  n : x.n.natAbs < 2 ^ b
  d : x.d < 2 ^ b
theorem Sz.mono {a b : Nat} {x : Q} (h : Sz a x) (l : a ≤ b) : Sz b x := ⟨Nat.lt_of_lt_of_le h.n (Nat.pow_le_pow_right (by omega) l), Nat.lt_of_lt_of_le h.d (Nat.pow_le_pow_right (by omega) l)⟩
theorem mul_abs_le {a n : Int} {k : Nat} (h : a.natAbs ≤ k) : (a * n).natAbs ≤ k * n.natAbs := by
  rw [Int.natAbs_mul]
  exact Nat.mul_le_mul_right _ h
theorem ofTerms_size : ∀ (l : List Int) (x : Q), l ≠ [] → Tail l → (∀ t ∈ l, t.natAbs ≤ 1001) → ofTerms l = some x → Sz (10 * l.length) x
  | [], _, h, _, _, _ => absurd rfl h
  | [a], x, _, _, h, e => by
    have e : (⟨a, 1⟩ : Q) = x := Option.some.inj e
    subst e
    have := h a (by simp)
    exact ⟨by show a.natAbs < 2 ^ 10; omega, by show 1 < 2 ^ 10; omega⟩
  | a :: b :: l, x, _, ht, h, e => by
    obtain ⟨y, ey, r, p⟩ := ofTerms_pos (b :: l) (by simp) ht.tl
    have q := r.pos
    have e2 : some _ = some x := (ofTerms_cons (a := a) ey r (by omega)).symm.trans e
    have e2 := Option.some.inj e2
    subst e2
    have s := ofTerms_size (b :: l) y (by simp) (fun t m => ht.tl t (List.mem_of_mem_tail m)) (fun t m => h t (by simp at m ⊢; right; exact m)) ey
    have ha := h a (by simp)
    have e3 : 10 * (a :: b :: l).length = 10 * (b :: l).length + 10 := by simp; omega
    rw [e3]
    have pw : 2 ^ (10 * (b :: l).length + 10) = 2 ^ (10 * (b :: l).length) * 1024 := by rw [Nat.pow_add]
    generalize hP : 2 ^ (10 * (b :: l).length) = P at *
    have s1 := s.n
    have s2 := s.d
    rw [hP] at s1 s2
    have m := mul_abs_le (n := y.n) ha
    refine ⟨?_, ?_⟩
    · show (a * y.n + y.d).natAbs < _
      rw [pw]
      have := Int.natAbs_add_le (a * y.n) y.d
      omega
    · show y.n.toNat < _
      rw [pw]
      omega
theorem floor_one {x : Q} (h : 0 < x.d) (l : (x.d : Int) ≤ x.n) : 1 ≤ x.floor := by
  unfold Q.floor
  refine (Int.le_ediv_iff_mul_le (by omega)).mpr ?_
  omega
/-- the terms of a fraction make it -/
theorem ofTerms_terms : ∀ (k : Nat) (x : Q), Red x → x.d ≤ k → ofTerms x.terms = some x ∧ Tail x.terms ∧ ((x.d : Int) ≤ x.n → ∀ t ∈ x.terms, 1 ≤ t)
  | 0, x, hx, h => by have := hx.pos; omega
  | k + 1, x, hx, h => by
    have b := floor_le hx.pos
    by_cases c : x.n - x.floor * x.d = 0
    · rw [terms_last c]
      have e : x = ⟨x.floor, 1⟩ := red_unique hx (red_whole _) (by show x.n * ((1 : Nat) : Int) = x.floor * x.d; omega)
      refine ⟨?_, ?_, ?_⟩
      · rw [ofTerms_one, ← e]
      · intro t m; simp at m
      · intro l t m
        have : t = x.floor := by simpa using m
        rw [this]; exact floor_one hx.pos l
    · rw [terms_more hx c]
      have hr := rest_d hx c
      have hy : Red (x.rest x.floor) := rest_red c
      have d : ((x.rest x.floor).d : Int) = x.n - x.floor * x.d := by rw [hr]; show ((_ : Int).toNat : Int) = _; omega
      have n : (x.rest x.floor).n = x.d := by rw [hr]
      obtain ⟨i1, i2, i3⟩ := ofTerms_terms k (x.rest x.floor) hy (by omega)
      have q := hx.pos
      refine ⟨?_, ?_, ?_⟩
      · rw [ofTerms_cons i1 hy (by omega), n, d]
        refine congrArg some ?_
        cases x
        simp
        omega
      · exact i3 (by omega)
      · intro l t m
        rcases List.mem_cons.mp m with e | m
        · rw [e]; exact floor_one hx.pos l
        · exact i3 (by omega) t m
theorem terms_ofTerms {x : Q} (hx : Red x) : ofTerms x.terms = some x := (ofTerms_terms x.d x hx (Nat.le_refl _)).1
theorem terms_tail {x : Q} (hx : Red x) : Tail x.terms := (ofTerms_terms x.d x hx (Nat.le_refl _)).2.1
theorem terms_pos {x : Q} (hx : Red x) (h : (x.d : Int) ≤ x.n) : ∀ t ∈ x.terms, 1 ≤ t := (ofTerms_terms x.d x hx (Nat.le_refl _)).2.2 h
/-- the terms of a fraction, the last one more by one -/
theorem more_terms : ∀ (k : Nat) (x y : Q), Red x → x.d ≤ k → (x.d : Int) ≤ x.n → ofTerms (more x.terms) = some y → y.n ≤ 2 * x.n ∧ y.d ≤ 2 * x.d
  | 0, x, y, hx, h, _, _ => by have := hx.pos; omega
  | k + 1, x, y, hx, h, g, e => by
    have b := floor_le hx.pos
    have q := hx.pos
    by_cases c : x.n - x.floor * x.d = 0
    · rw [terms_last c] at e
      have e : (⟨x.floor + 1, 1⟩ : Q) = y := Option.some.inj e
      subst e
      have one := floor_one q g
      have m := Int.mul_le_mul_of_nonneg_left (show (1 : Int) ≤ x.d by omega) (show 0 ≤ x.floor by omega)
      exact ⟨by show x.floor + 1 ≤ 2 * x.n; omega, by show 1 ≤ 2 * x.d; omega⟩
    · rw [terms_more hx c] at e
      have hr := rest_d hx c
      have hy : Red (x.rest x.floor) := rest_red c
      have d : ((x.rest x.floor).d : Int) = x.n - x.floor * x.d := by rw [hr]; show ((_ : Int).toNat : Int) = _; omega
      have n : (x.rest x.floor).n = x.d := by rw [hr]
      have tp := terms_pos hy (by omega)
      obtain ⟨z, ez, rz, pz⟩ := ofTerms_pos (more (x.rest x.floor).terms) (more_ne (terms_ne _)) (more_pos tp)
      have i := more_terms k (x.rest x.floor) z hy (by omega) (by omega) ez
      cases ht : (x.rest x.floor).terms with
      | nil => exact absurd ht (terms_ne _)
      | cons t l =>
        rw [ht, more_cons, ← ht] at e
        have pz' := rz.pos
        have e := Option.some.inj ((ofTerms_cons ez rz (by omega)).symm.trans e)
        subst e
        have one := floor_one q g
        have m := Int.mul_le_mul_of_nonneg_left (show z.n ≤ 2 * x.d by omega) (show 0 ≤ x.floor by omega)
        have m2 : x.floor * (2 * (x.d : Int)) = 2 * (x.floor * x.d) := by grind
        exact ⟨by show x.floor * z.n + z.d ≤ 2 * x.n; omega, by show z.n.toNat ≤ 2 * x.d; omega⟩
/-- sure terms of a range from 1 on: they are 1 or more; what they make is no greater than both ends together -/
theorem sure_pos : ∀ (k : Nat) (r : Range), Ok r → r.lo.d + r.hi.d ≤ k → (r.lo.d : Int) ≤ r.lo.n → r.sure.terms ≠ [] → (∀ t ∈ r.sure.terms, 1 ≤ t) ∧
    (∀ x, ofTerms r.sure.terms = some x → x.n ≤ r.lo.n + r.hi.n ∧ x.d ≤ r.lo.d + r.hi.d) ∧ (∀ y, ofTerms (more r.sure.terms) = some y → y.n ≤ 2 * (r.lo.n + r.hi.n) ∧ y.d ≤ 2 * (r.lo.d + r.hi.d))
  | 0, r, hr, h, _, _ => by have := hr.lo.pos; omega
  | k + 1, r, hr, h, g, ne => by
    have q1 := hr.lo.pos
    have q2 := hr.hi.pos
    have hn : 0 ≤ r.hi.n := by
      have l := hr.le
      have m := Int.mul_nonneg (show 0 ≤ r.lo.n by omega) (show (0 : Int) ≤ r.hi.d by omega)
      have m2 : 0 ≤ r.hi.n * r.lo.d := by omega
      rcases Int.lt_or_le r.hi.n 0 with z | z
      · have := Int.mul_neg_of_neg_of_pos z (show (0 : Int) < r.lo.d by omega); omega
      · exact z
    have b := floor_le q1
    have one := floor_one q1 g
    have fm := Int.mul_le_mul_of_nonneg_left (show (1 : Int) ≤ r.lo.d by omega) (show 0 ≤ r.lo.floor by omega)
    have whole : (∀ t ∈ ([r.lo.floor] : List Int), 1 ≤ t) ∧ (∀ x, ofTerms [r.lo.floor] = some x → x.n ≤ r.lo.n + r.hi.n ∧ x.d ≤ r.lo.d + r.hi.d) ∧ (∀ y, ofTerms (more [r.lo.floor]) = some y → y.n ≤ 2 * (r.lo.n + r.hi.n) ∧ y.d ≤ 2 * (r.lo.d + r.hi.d)) := by
      refine ⟨fun t m => by have : t = r.lo.floor := by simpa using m
                            omega, fun x e => ?_, fun y e => ?_⟩
      · have e : (⟨r.lo.floor, 1⟩ : Q) = x := Option.some.inj e
        subst e
        exact ⟨by show r.lo.floor ≤ _; omega, by show 1 ≤ _; omega⟩
      · have e : (⟨r.lo.floor + 1, 1⟩ : Q) = y := Option.some.inj e
        subst e
        exact ⟨by show r.lo.floor + 1 ≤ _; omega, by show 1 ≤ _; omega⟩
    by_cases e : r.lo = r.hi
    · rw [sure_one e]
      refine ⟨terms_pos hr.lo g, fun x ex => ?_, fun y ey => ?_⟩
      · have ex : some r.lo = some x := (terms_ofTerms hr.lo).symm.trans ex
        have ex := Option.some.inj ex
        subst ex
        exact ⟨by omega, by omega⟩
      · have := more_terms r.lo.d r.lo y hr.lo (Nat.le_refl _) g ey
        exact ⟨by omega, by omega⟩
    · by_cases s : sameFloor r = true
      · by_cases c : r.lo.n - r.lo.floor * r.lo.d = 0
        · rw [sure_last e s c]; exact whole
        · rw [sure_more hr e s c]
          have hk := nxt_d hr e s c
          have hnx := hr.nxt e c
          have a := hr.hi_above e
          have t := sameFloor_le s
          have t2 : (r.lo.floor + 1) * (r.hi.d : Int) = r.lo.floor * r.hi.d + r.hi.d := by grind
          have l1 : (nxt r).lo.n = r.hi.d := by show (r.hi.rest r.lo.floor).n = _; rw [rest_eq hr.hi a]
          have l2 : ((nxt r).lo.d : Int) = r.hi.n - r.lo.floor * r.hi.d := by show ((r.hi.rest r.lo.floor).d : Int) = _; rw [rest_eq hr.hi a]; show ((_ : Int).toNat : Int) = _; omega
          have l3 : (nxt r).hi.n = r.lo.d := by show (r.lo.rest r.lo.floor).n = _; rw [rest_d hr.lo c]
          have l4 : ((nxt r).hi.d : Int) = r.lo.n - r.lo.floor * r.lo.d := by show ((r.lo.rest r.lo.floor).d : Int) = _; rw [rest_d hr.lo c]; show ((_ : Int).toNat : Int) = _; omega
          cases hs : (nxt r).sure.terms with
          | nil => exact whole
          | cons u l =>
            obtain ⟨i1, i2, i3⟩ := sure_pos k (nxt r) hnx (by omega) (by omega) (by rw [hs]; simp)
            rw [hs] at i1 i2 i3
            refine ⟨fun t m => ?_, fun x ex => ?_, fun y ey => ?_⟩
            · rcases List.mem_cons.mp m with w | m
              · rw [w]; exact one
              · exact i1 t m
            · obtain ⟨z, ez, rz, pz⟩ := ofTerms_pos (u :: l) (by simp) i1
              have := rz.pos
              have ex := Option.some.inj ((ofTerms_cons ez rz (by omega)).symm.trans ex)
              subst ex
              have iz := i2 z ez
              have m := Int.mul_le_mul_of_nonneg_left (show z.n ≤ r.hi.d + r.lo.d by omega) (show 0 ≤ r.lo.floor by omega)
              have m2 : r.lo.floor * ((r.hi.d : Int) + r.lo.d) = r.lo.floor * r.hi.d + r.lo.floor * r.lo.d := by grind
              exact ⟨by show r.lo.floor * z.n + z.d ≤ _; omega, by show z.n.toNat ≤ _; omega⟩
            · obtain ⟨z, ez, rz, pz⟩ := ofTerms_pos (more (u :: l)) (more_ne (by simp)) (more_pos i1)
              have := rz.pos
              have ey := Option.some.inj ((ofTerms_cons ez rz (by omega)).symm.trans ey)
              subst ey
              have iz := i3 z ez
              have m := Int.mul_le_mul_of_nonneg_left (show z.n ≤ 2 * (r.hi.d + r.lo.d) by omega) (show 0 ≤ r.lo.floor by omega)
              have m2 : r.lo.floor * (2 * ((r.hi.d : Int) + r.lo.d)) = 2 * (r.lo.floor * r.hi.d + r.lo.floor * r.lo.d) := by grind
              exact ⟨by show r.lo.floor * z.n + z.d ≤ _; omega, by show z.n.toNat ≤ _; omega⟩
      · exact absurd (by rw [sure_none e (by simpa using s)]) ne
end TQ

/-! What is known of items: ranges as they should be, within so many bits. Core Lean alone. -/
namespace TQ
open Re04
/-- a range as it should be, its ends within b bits -/
structure Rg (b : Nat) (r : Range) : Prop where
  ok : Ok r
  lo : Sz b r.lo
  hi : Sz b r.hi
theorem Rg.mono {a b : Nat} {r : Range} (h : Rg a r) (l : a ≤ b) : Rg b r := ⟨h.ok, h.lo.mono l, h.hi.mono l⟩
theorem floor_abs {x : Q} (h : 0 < x.d) : x.floor.natAbs * x.d ≤ x.n.natAbs + x.d := by
  have b := floor_le h
  have e : ((x.floor.natAbs * x.d : Nat) : Int) = (x.floor * x.d).natAbs := by
    rw [Int.natAbs_mul, Int.natAbs_natCast]
  omega
theorem pow_add4 (b : Nat) : 2 ^ (b + 4) = 16 * 2 ^ b := by rw [Nat.pow_add]; omega
/-- what a range's sure terms make, and with the last one more by one -/
theorem sure_size {b : Nat} {r : Range} (hr : Rg b r) : Tail r.sure.terms ∧ (∀ x, ofTerms r.sure.terms = some x → Sz (b + 4) x) ∧ (∀ y, ofTerms (more r.sure.terms) = some y → Sz (b + 4) y) := by
  have q1 := hr.ok.lo.pos
  have q2 := hr.ok.hi.pos
  have b1 := floor_le q1
  have fa := floor_abs q1
  have z1 := hr.lo.n
  have z2 := hr.lo.d
  have z3 := hr.hi.n
  have z4 := hr.hi.d
  have pw := pow_add4 b
  have fm : r.lo.floor.natAbs ≤ r.lo.floor.natAbs * r.lo.d := Nat.le_mul_of_pos_right _ q1
  have whole : Tail [r.lo.floor] ∧ (∀ x, ofTerms [r.lo.floor] = some x → Sz (b + 4) x) ∧ (∀ y, ofTerms (more [r.lo.floor]) = some y → Sz (b + 4) y) := by
    refine ⟨fun t m => by simp at m, fun x e => ?_, fun y e => ?_⟩
    · have e : (⟨r.lo.floor, 1⟩ : Q) = x := Option.some.inj e
      subst e
      exact ⟨by show r.lo.floor.natAbs < _; omega, by show 1 < _; omega⟩
    · have e : (⟨r.lo.floor + 1, 1⟩ : Q) = y := Option.some.inj e
      subst e
      exact ⟨by show (r.lo.floor + 1).natAbs < _; omega, by show 1 < _; omega⟩
  by_cases e : r.lo = r.hi
  · rw [sure_one e]
    refine ⟨terms_tail hr.ok.lo, fun x ex => ?_, fun y ey => ?_⟩
    · have ex : some r.lo = some x := (terms_ofTerms hr.ok.lo).symm.trans ex
      have ex := Option.some.inj ex
      subst ex
      exact hr.lo.mono (by omega)
    · by_cases c : r.lo.n - r.lo.floor * r.lo.d = 0
      · rw [terms_last c] at ey; exact whole.2.2 y ey
      · rw [terms_more hr.ok.lo c] at ey
        have hx := hr.ok.lo
        have hrd := rest_d hx c
        have hy : Red (r.lo.rest r.lo.floor) := rest_red c
        have d : ((r.lo.rest r.lo.floor).d : Int) = r.lo.n - r.lo.floor * r.lo.d := by rw [hrd]; show ((_ : Int).toNat : Int) = _; omega
        have n : (r.lo.rest r.lo.floor).n = r.lo.d := by rw [hrd]
        have tp := terms_pos hy (by omega)
        obtain ⟨z, ez, rz, pz⟩ := ofTerms_pos (more (r.lo.rest r.lo.floor).terms) (more_ne (terms_ne _)) (more_pos tp)
        have i := more_terms _ (r.lo.rest r.lo.floor) z hy (Nat.le_refl _) (by omega) ez
        have pz' := rz.pos
        cases ht : (r.lo.rest r.lo.floor).terms with
        | nil => exact absurd ht (terms_ne _)
        | cons t l =>
          rw [ht, more_cons, ← ht] at ey
          have ey := Option.some.inj ((ofTerms_cons ez rz (by omega)).symm.trans ey)
          subst ey
          have m := Int.natAbs_add_le (r.lo.floor * z.n) z.d
          have m2 : (r.lo.floor * z.n).natAbs ≤ r.lo.floor.natAbs * (2 * r.lo.d) := by
            rw [Int.natAbs_mul]
            exact Nat.mul_le_mul_left _ (by omega)
          have m3 : r.lo.floor.natAbs * (2 * r.lo.d) = 2 * (r.lo.floor.natAbs * r.lo.d) := by grind
          exact ⟨by show (r.lo.floor * z.n + z.d).natAbs < _; omega, by show z.n.toNat < _; omega⟩
  · by_cases s : sameFloor r = true
    · by_cases c : r.lo.n - r.lo.floor * r.lo.d = 0
      · rw [sure_last e s c]; exact whole
      · rw [sure_more hr.ok e s c]
        have hnx := hr.ok.nxt e c
        have a := hr.ok.hi_above e
        have t := sameFloor_le s
        have t2 : (r.lo.floor + 1) * (r.hi.d : Int) = r.lo.floor * r.hi.d + r.hi.d := by grind
        have l1 : (nxt r).lo.n = r.hi.d := by show (r.hi.rest r.lo.floor).n = _; rw [rest_eq hr.ok.hi a]
        have l2 : ((nxt r).lo.d : Int) = r.hi.n - r.lo.floor * r.hi.d := by show ((r.hi.rest r.lo.floor).d : Int) = _; rw [rest_eq hr.ok.hi a]; show ((_ : Int).toNat : Int) = _; omega
        have l3 : (nxt r).hi.n = r.lo.d := by show (r.lo.rest r.lo.floor).n = _; rw [rest_d hr.ok.lo c]
        have l4 : ((nxt r).hi.d : Int) = r.lo.n - r.lo.floor * r.lo.d := by show ((r.lo.rest r.lo.floor).d : Int) = _; rw [rest_d hr.ok.lo c]; show ((_ : Int).toNat : Int) = _; omega
        have fb : r.lo.floor.natAbs * r.hi.d ≤ r.hi.n.natAbs + r.hi.d := by
          have w : ((r.lo.floor.natAbs * r.hi.d : Nat) : Int) = (r.lo.floor * r.hi.d).natAbs := by
            rw [Int.natAbs_mul, Int.natAbs_natCast]
          omega
        cases hs : (nxt r).sure.terms with
        | nil => exact whole
        | cons u l =>
          obtain ⟨i1, i2, i3⟩ := sure_pos _ (nxt r) hnx (Nat.le_refl _) (by omega) (by rw [hs]; simp)
          rw [hs] at i1 i2 i3
          refine ⟨i1, fun x ex => ?_, fun y ey => ?_⟩
          · obtain ⟨z, ez, rz, pz⟩ := ofTerms_pos (u :: l) (by simp) i1
            have := rz.pos
            have ex := Option.some.inj ((ofTerms_cons ez rz (by omega)).symm.trans ex)
            subst ex
            have iz := i2 z ez
            have m := Int.natAbs_add_le (r.lo.floor * z.n) z.d
            have m2 : (r.lo.floor * z.n).natAbs ≤ r.lo.floor.natAbs * (r.hi.d + r.lo.d) := by
              rw [Int.natAbs_mul]
              exact Nat.mul_le_mul_left _ (by omega)
            have m3 : r.lo.floor.natAbs * (r.hi.d + r.lo.d) = r.lo.floor.natAbs * r.hi.d + r.lo.floor.natAbs * r.lo.d := by grind
            exact ⟨by show (r.lo.floor * z.n + z.d).natAbs < _; omega, by show z.n.toNat < _; omega⟩
          · obtain ⟨z, ez, rz, pz⟩ := ofTerms_pos (more (u :: l)) (more_ne (by simp)) (more_pos i1)
            have := rz.pos
            have ey := Option.some.inj ((ofTerms_cons ez rz (by omega)).symm.trans ey)
            subst ey
            have iz := i3 z ez
            have m := Int.natAbs_add_le (r.lo.floor * z.n) z.d
            have m2 : (r.lo.floor * z.n).natAbs ≤ r.lo.floor.natAbs * (2 * (r.hi.d + r.lo.d)) := by
              rw [Int.natAbs_mul]
              exact Nat.mul_le_mul_left _ (by omega)
            have m3 : r.lo.floor.natAbs * (2 * (r.hi.d + r.lo.d)) = 2 * (r.lo.floor.natAbs * r.hi.d + r.lo.floor.natAbs * r.lo.d) := by grind
            exact ⟨by show (r.lo.floor * z.n + z.d).natAbs < _; omega, by show z.n.toNat < _; omega⟩
    · rw [sure_none e (by simpa using s)]
      exact ⟨fun t m => by simp at m, fun x e => by simp [ofTerms] at e, fun y e => by simp [more, ofTerms] at e⟩
/-- what a number may be, by its terms -/
theorem range_none (e : Bool) : Known.range ⟨[], e⟩ = none := rfl
theorem range_some {k : Known} {p q : Q} (hp : ofTerms k.terms = some p) (hq : ofTerms (more k.terms) = some q) : k.range = some (if k.ended = true then ⟨p, true, p, true⟩ else if p.lt q = true then ⟨p, decide (k.terms.length = 1) || k.terms.getLastD 0 != 1, q, false⟩ else ⟨q, false, p, decide (k.terms.length = 1) || k.terms.getLastD 0 != 1⟩) := by
  unfold Known.range
  rw [hp, hq]
theorem range_rg {b : Nat} {k : Known} (ht : Tail k.terms) (hp : ∀ x, ofTerms k.terms = some x → Sz b x) (hq : ∀ y, ofTerms (more k.terms) = some y → Sz b y) :
    (k.terms = [] ∧ k.range = none) ∨ (k.terms ≠ [] ∧ ∃ r, k.range = some r ∧ Rg b r) := by
  by_cases e : k.terms = []
  · left
    refine ⟨e, ?_⟩
    unfold Known.range
    rw [e]
    rfl
  · right
    refine ⟨e, ?_⟩
    obtain ⟨p, ep, rp⟩ := ofTerms_ok k.terms e ht
    obtain ⟨q, eq, rq⟩ := ofTerms_ok (more k.terms) (more_ne e) (more_tail ht)
    refine ⟨_, range_some ep eq, ?_⟩
    have sp := hp p ep
    have sq := hq q eq
    by_cases c : k.ended = true
    · rw [if_pos c]
      exact ⟨⟨rp, rp, Int.le_refl _⟩, sp, sp⟩
    · rw [if_neg c]
      by_cases l : p.lt q = true
      · rw [if_pos l]
        exact ⟨⟨rp, rq, Int.le_of_lt (lt_iff.mp l)⟩, sp, sq⟩
      · rw [if_neg l]
        exact ⟨⟨rq, rp, Int.not_lt.mp (fun z => l (lt_iff.mpr z))⟩, sq, sp⟩
/-- factors within 1000 -/
structure FOk (F : Fun) : Prop where
  a : F.a.natAbs ≤ 1000
  b : F.b.natAbs ≤ 1000
  c : F.c.natAbs ≤ 1000
  d : F.d.natAbs ≤ 1000
  e : F.e.natAbs ≤ 1000
  f : F.f.natAbs ≤ 1000
  g : F.g.natAbs ≤ 1000
  h : F.h.natAbs ≤ 1000
theorem term_abs {f x y : Int} {b : Nat} (h : f.natAbs ≤ 1000) (hx : x.natAbs < 2 ^ b) (hy : y.natAbs < 2 ^ b) : (f * x * y).natAbs ≤ 1000 * (2 ^ b * 2 ^ b) := by
  rw [Int.natAbs_mul, Int.natAbs_mul, Nat.mul_assoc]
  exact Nat.mul_le_mul h (Nat.mul_le_mul (Nat.le_of_lt hx) (Nat.le_of_lt hy))
theorem four_abs {a b c d : Int} {M : Nat} (h1 : a.natAbs ≤ 1000 * M) (h2 : b.natAbs ≤ 1000 * M) (h3 : c.natAbs ≤ 1000 * M) (h4 : d.natAbs ≤ 1000 * M) (hm : 0 < M) : (a + b + c + d).natAbs < 4096 * M := by
  omega
theorem parts_abs {F : Fun} {x y : Q} {b : Nat} (hF : FOk F) (hx : Sz b x) (hy : Sz b y) : (above F x y).natAbs < 2 ^ (2 * b + 12) ∧ (below F x y).natAbs < 2 ^ (2 * b + 12) := by
  have pw : 2 ^ (2 * b + 12) = 4096 * (2 ^ b * 2 ^ b) := by
    rw [Nat.pow_add, Nat.two_mul, Nat.pow_add, Nat.mul_comm]
  have xd : (x.d : Int).natAbs < 2 ^ b := by rw [Int.natAbs_natCast]; exact hx.d
  have yd : (y.d : Int).natAbs < 2 ^ b := by rw [Int.natAbs_natCast]; exact hy.d
  have p : 0 < 2 ^ b * 2 ^ b := Nat.mul_pos (Nat.pow_pos (by omega)) (Nat.pow_pos (by omega))
  rw [pw]
  exact ⟨four_abs (term_abs hF.a hx.n hy.n) (term_abs hF.b hx.n yd) (term_abs hF.c hy.n xd) (term_abs hF.d xd yd) p,
    four_abs (term_abs hF.e hx.n hy.n) (term_abs hF.f hx.n yd) (term_abs hF.g hy.n xd) (term_abs hF.h xd yd) p⟩
theorem of_size {n d : Int} {b : Nat} (hn : n.natAbs < 2 ^ b) (hd : d.natAbs < 2 ^ b) (h : d ≠ 0) : Sz b (Q.of n d) := by
  have key : ∀ n d : Int, 0 < d → n.natAbs < 2 ^ b → d.natAbs < 2 ^ b → Sz b (Q.of n d) := fun n d h hn hd => by
    rw [of_pos n d h]
    refine ⟨?_, ?_⟩
    · show (n / (Int.gcd n d : Int)).natAbs < _
      have := Int.natAbs_ediv_le_natAbs n (Int.gcd n d : Int)
      omega
    · show d.toNat / Int.gcd n d < _
      have := Nat.div_le_self d.toNat (Int.gcd n d)
      omega
  rcases Int.lt_or_gt_of_ne h with z | z
  · rw [of_neg n d z]
    exact key _ _ (by omega) (by omega) (by omega)
  · exact key n d z hn hd
theorem value_ok {F : Fun} {x y : Q} {b : Nat} (hF : FOk F) (hx : Sz b x) (hy : Sz b y) (h : below F x y ≠ 0) : Red (value F x y) ∧ Sz (2 * b + 12) (value F x y) :=
  ⟨(of_spec _ _ h).1, of_size (parts_abs hF hx hy).1 (parts_abs hF hx hy).2 h⟩
theorem safe_ne {F : Fun} {r s : Range} (h : safe F r s = true) : below F r.lo s.lo ≠ 0 ∧ below F r.lo s.hi ≠ 0 ∧ below F r.hi s.lo ≠ 0 ∧ below F r.hi s.hi ≠ 0 := by
  unfold safe at h
  simp only [List.all_cons, List.all_nil, Bool.and_true, Bool.or_eq_true, Bool.and_eq_true, decide_eq_true_eq] at h
  omega
/-- the least and the greatest of some corners -/
theorem least_mem : ∀ (l : List Corner) (v : Q), least v l = v ∨ ∃ c ∈ l, least v l = c.v
  | [], v => .inl rfl
  | c :: l, v => by
    show least (if c.v.lt v = true then c.v else v) l = v ∨ _
    rcases least_mem l (if c.v.lt v = true then c.v else v) with h | ⟨c', m, h⟩
    · by_cases t : c.v.lt v = true
      · rw [if_pos t] at h
        right
        exact ⟨c, by simp, by show least (if c.v.lt v = true then c.v else v) l = _; rw [if_pos t]; exact h⟩
      · rw [if_neg t] at h
        left
        rw [if_neg t]; exact h
    · right
      exact ⟨c', by simp [m], h⟩
theorem greatest_mem : ∀ (l : List Corner) (v : Q), greatest v l = v ∨ ∃ c ∈ l, greatest v l = c.v
  | [], v => .inl rfl
  | c :: l, v => by
    show greatest (if v.lt c.v = true then c.v else v) l = v ∨ _
    rcases greatest_mem l (if v.lt c.v = true then c.v else v) with h | ⟨c', m, h⟩
    · by_cases t : v.lt c.v = true
      · rw [if_pos t] at h
        right
        exact ⟨c, by simp, by show greatest (if v.lt c.v = true then c.v else v) l = _; rw [if_pos t]; exact h⟩
      · rw [if_neg t] at h
        left
        rw [if_neg t]; exact h
    · right
      exact ⟨c', by simp [m], h⟩
def Le (x y : Q) : Prop := x.n * y.d ≤ y.n * x.d
theorem Le.trans {x y z : Q} (h1 : Le x y) (h2 : Le y z) (px : 0 < x.d) (py : 0 < y.d) (pz : 0 < z.d) : Le x z := by
  unfold Le at *
  have a := Int.mul_le_mul_of_nonneg_right h1 (show (0 : Int) ≤ z.d by omega)
  have b := Int.mul_le_mul_of_nonneg_right h2 (show (0 : Int) ≤ x.d by omega)
  have : x.n * z.d * y.d ≤ z.n * x.d * y.d := by grind
  exact Int.le_of_mul_le_mul_right this (by omega)
theorem le_of_not_lt {x y : Q} (h : ¬ x.lt y = true) : Le y x := Int.not_lt.mp fun z => h (lt_iff.mpr z)
theorem le_of_lt {x y : Q} (h : x.lt y = true) : Le x y := Int.le_of_lt (lt_iff.mp h)
theorem least_le : ∀ (l : List Corner) (v : Q), 0 < v.d → (∀ c ∈ l, 0 < c.v.d) → 0 < (least v l).d ∧ Le (least v l) v
  | [], v, h, _ => ⟨h, Int.le_refl _⟩
  | c :: l, v, h, hc => by
    show 0 < (least (if c.v.lt v = true then c.v else v) l).d ∧ Le (least (if c.v.lt v = true then c.v else v) l) v
    by_cases t : c.v.lt v = true
    · rw [if_pos t]
      obtain ⟨p, i⟩ := least_le l c.v (hc c (by simp)) (fun c' m => hc c' (by simp [m]))
      exact ⟨p, i.trans (le_of_lt t) p (hc c (by simp)) h⟩
    · rw [if_neg t]
      exact least_le l v h (fun c' m => hc c' (by simp [m]))
theorem le_greatest : ∀ (l : List Corner) (v : Q), 0 < v.d → (∀ c ∈ l, 0 < c.v.d) → 0 < (greatest v l).d ∧ Le v (greatest v l)
  | [], v, h, _ => ⟨h, Int.le_refl _⟩
  | c :: l, v, h, hc => by
    show 0 < (greatest (if v.lt c.v = true then c.v else v) l).d ∧ Le v (greatest (if v.lt c.v = true then c.v else v) l)
    by_cases t : v.lt c.v = true
    · rw [if_pos t]
      obtain ⟨p, i⟩ := le_greatest l c.v (hc c (by simp)) (fun c' m => hc c' (by simp [m]))
      exact ⟨p, (le_of_lt t).trans i h (hc c (by simp)) p⟩
    · rw [if_neg t]
      exact le_greatest l v h (fun c' m => hc c' (by simp [m]))
theorem image_rg {F : Fun} {r s t : Range} {b : Nat} (hF : FOk F) (hr : Rg b r) (hs : Rg b s) (e : image F r s = some t) : Rg (2 * b + 12) t := by
  unfold image at e
  by_cases c : safe F r s = false
  · rw [if_pos c] at e; cases e
  · rw [if_neg c] at e
    have c' : safe F r s = true := by simpa using c
    obtain ⟨n1, n2, n3, n4⟩ := safe_ne c'
    have v1 := value_ok hF hr.lo hs.lo n1
    have v2 := value_ok hF hr.lo hs.hi n2
    have v3 := value_ok hF hr.hi hs.lo n3
    have v4 := value_ok hF hr.hi hs.hi n4
    have all : ∀ c ∈ corners F r s, Red c.v ∧ Sz (2 * b + 12) c.v := by
      intro c m
      unfold corners at m
      simp only [List.mem_cons, List.not_mem_nil, or_false] at m
      rcases m with rfl | rfl | rfl | rfl
      · exact v1
      · exact v2
      · exact v3
      · exact v4
    have e := Option.some.inj e
    have lo : Red t.lo ∧ Sz (2 * b + 12) t.lo := by
      rw [← e]
      show Red (least _ _) ∧ Sz _ (least _ _)
      rcases least_mem (corners F r s) (value F r.lo s.lo) with h | ⟨c, m, h⟩
      · rw [h]; exact v1
      · rw [h]; exact all c m
    have hi : Red t.hi ∧ Sz (2 * b + 12) t.hi := by
      rw [← e]
      show Red (greatest _ _) ∧ Sz _ (greatest _ _)
      rcases greatest_mem (corners F r s) (value F r.lo s.lo) with h | ⟨c, m, h⟩
      · rw [h]; exact v1
      · rw [h]; exact all c m
    refine ⟨⟨lo.1, hi.1, ?_⟩, lo.2, hi.2⟩
    rw [← e]
    show Le (least _ _) (greatest _ _)
    have a := least_le (corners F r s) (value F r.lo s.lo) v1.1.pos (fun c m => (all c m).1.pos)
    have d := le_greatest (corners F r s) (value F r.lo s.lo) v1.1.pos (fun c m => (all c m).1.pos)
    exact a.2.trans d.2 a.1 v1.1.pos d.1
end TQ

/-! The items of a house: what is known of each, within so many bits. Core Lean alone. -/
namespace TQ
open Re04
/-- so many bits have the ends of what the item of that number may be -/
def bits : Nat → Nat
  | 0 => 320
  | i + 1 => 2 * bits i + 16
theorem bits_le : ∀ i j, i ≤ j → bits i ≤ bits j
  | i, 0, h => by
    have e : i = 0 := by omega
    rw [e]
    exact Nat.le_refl _
  | i, j + 1, h => by
    by_cases e : i = j + 1
    · subst e; exact Nat.le_refl _
    · have := bits_le i j (by omega)
      show bits i ≤ 2 * bits j + 16
      omega
theorem bits_8 : bits 7 = 42992 := by decide
/-- terms that can end there -/
def CanE (l : List Int) : Prop := ¬ (l = [] ∨ (2 ≤ l.length ∧ l.getLastD 0 = 1))
theorem getLastD_cons2 (a b : Int) (l : List Int) (d : Int) : (a :: b :: l).getLastD d = (b :: l).getLastD d := by
  simp [List.getLastD_eq_getLast?, List.getLast?_cons_cons]
theorem terms_can : ∀ (k : Nat) (x : Q), Red x → x.d ≤ k → CanE x.terms ∧ ((x.d : Int) < x.n → x.terms.getLastD 0 ≠ 1)
  | 0, x, hx, h => by have := hx.pos; omega
  | k + 1, x, hx, h => by
    have b := floor_le hx.pos
    have q := hx.pos
    by_cases c : x.n - x.floor * x.d = 0
    · rw [terms_last c]
      refine ⟨fun z => ?_, fun l z => ?_⟩
      · rcases z with z | ⟨z, _⟩
        · cases z
        · simp at z
      · have z : x.floor = 1 := z
        rw [z] at c
        omega
    · have e := terms_more hx c
      have hr := rest_d hx c
      have hy : Red (x.rest x.floor) := rest_red c
      have d : ((x.rest x.floor).d : Int) = x.n - x.floor * x.d := by rw [hr]; show ((_ : Int).toNat : Int) = _; omega
      have n : (x.rest x.floor).n = x.d := by rw [hr]
      have ih := (terms_can k (x.rest x.floor) hy (by omega)).2 (by omega)
      cases ht : (x.rest x.floor).terms with
      | nil => exact absurd ht (terms_ne _)
      | cons t l =>
        rw [ht] at ih e
        rw [e, CanE, getLastD_cons2]
        refine ⟨fun z => ?_, fun _ => ih⟩
        rcases z with z | ⟨_, z⟩
        · cases z
        · exact ih z
theorem terms_canE {x : Q} (hx : Red x) : CanE x.terms := (terms_can x.d x hx (Nat.le_refl _)).1
structure KOk (k : Known) : Prop where
  tail : Tail k.terms
  most : ∀ t ∈ k.terms, t.natAbs ≤ 1000
  long : k.terms.length ≤ 30
  ended : k.ended = true → CanE k.terms
/-- an item as it should be, at its place -/
def IOk (i : Nat) : Item → Prop
  | .stream k => KOk k
  | .node F x y => FOk F ∧ x < i ∧ y < i
def Good (l : List Item) : Prop := ∀ i it, l[i]? = some it → IOk i it
/-- what may be known of the item of that number -/
structure KR (i : Nat) (k : Known) (o : Option Range) : Prop where
  tail : Tail k.terms
  long : k.terms.length ≤ 2 * bits i
  own : ∀ r, k.range = some r → Rg (bits i) r
  of : ∀ r, o = some r → Rg (bits i) r
  none : k.range = Option.none ↔ k.terms = []
  ended : k.ended = true → CanE k.terms
theorem more_mem : ∀ {l : List Int}, (∀ t ∈ l, t.natAbs ≤ 1000) → ∀ t ∈ more l, t.natAbs ≤ 1001
  | [], _ => by simp [more]
  | [a], h => by
    intro t m
    have : t = a + 1 := by simpa [more] using m
    have := h a (by simp)
    omega
  | a :: b :: l, h => by
    rw [more_cons]
    intro t m
    rcases List.mem_cons.mp m with e | m
    · rw [e]; have := h a (by simp); omega
    · exact more_mem (l := b :: l) (fun t m => h t (by simp at m ⊢; right; exact m)) t m
theorem more_len : ∀ l : List Int, (more l).length = l.length
  | [] => rfl
  | [a] => rfl
  | a :: b :: l => by rw [more_cons]; simp only [List.length_cons]; have := more_len (b :: l); simp only [List.length_cons] at this; omega
theorem stream_kr {k : Known} (h : KOk k) (i : Nat) : KR i k k.range := by
  have b0 := bits_le 0 i (Nat.zero_le _)
  have b0' : bits 0 = 320 := rfl
  have l := h.long
  have key := range_rg (b := bits i) (k := k) h.tail
    (fun x e => (ofTerms_size k.terms x (fun z => by rw [z] at e; cases e) h.tail (fun t m => by have := h.most t m; omega) e).mono (by omega))
    (fun y e => (ofTerms_size (more k.terms) y (fun z => by rw [z] at e; cases e) (more_tail h.tail) (more_mem h.most) e).mono (by rw [more_len]; omega))
  have r : ∀ r, k.range = some r → Rg (bits i) r := fun r e => by
    rcases key with ⟨_, n⟩ | ⟨_, r', e', g⟩
    · rw [n] at e; cases e
    · rw [e'] at e
      have e := Option.some.inj e
      subst e
      exact g
  refine ⟨h.tail, by omega, r, r, ?_, h.ended⟩
  rcases key with ⟨n, m⟩ | ⟨n, r', e', g⟩
  · exact ⟨fun _ => n, fun _ => m⟩
  · exact ⟨fun z => (by rw [e'] at z; cases z), fun z => absurd z n⟩
theorem none_kr (i : Nat) : KR i ⟨[], false⟩ Option.none := ⟨fun t m => (by simp at m), (by simp), fun r e => (by cases e), fun r e => (by cases e), ⟨fun _ => rfl, fun _ => rfl⟩, fun e => (by cases e)⟩
theorem nxt_ne {r : Range} (hr : Ok r) (ne : r.lo ≠ r.hi) (c : r.lo.n - r.lo.floor * r.lo.d ≠ 0) : (nxt r).lo ≠ (nxt r).hi := by
  have a := hr.hi_above ne
  have b := floor_le hr.lo.pos
  intro e
  have e : r.hi.rest r.lo.floor = r.lo.rest r.lo.floor := e
  rw [rest_eq hr.hi a, rest_d hr.lo c] at e
  injection e with e1 e2
  have e1 : (r.hi.d : Int) = r.lo.d := e1
  refine ne (red_unique hr.lo hr.hi ?_)
  rw [e1]
  rw [e1] at e2 a
  have : r.lo.n = r.hi.n := by omega
  rw [this]
theorem sure_ended : ∀ (k : Nat) (r : Range), Ok r → r.lo.d + r.hi.d ≤ k → r.lo ≠ r.hi → r.sure.ended = false
  | 0, r, hr, h, _ => by have := hr.lo.pos; omega
  | k + 1, r, hr, h, c => by
    by_cases s : sameFloor r = true
    · by_cases d : r.lo.n - r.lo.floor * r.lo.d = 0
      · rw [sure_last c s d]
      · rw [sure_more hr c s d]
        have := nxt_d hr c s d
        exact sure_ended k (nxt r) (hr.nxt c d) (by omega) (nxt_ne hr c d)
    · rw [sure_none c (by simpa using s)]
theorem sure_end {r : Range} (hr : Ok r) : r.sure.ended = decide (r.lo = r.hi) := by
  by_cases c : r.lo = r.hi
  · rw [sure_one c, decide_eq_true c]
  · rw [sure_ended _ r hr (Nat.le_refl _) c, decide_eq_false c]
theorem sure_can {r : Range} (hr : Ok r) (e : r.sure.ended = true) : CanE r.sure.terms := by
  have c : r.lo = r.hi := by rw [sure_end hr] at e; exact of_decide_eq_true e
  rw [sure_one c]
  exact terms_canE hr.lo
theorem node_kr {i b : Nat} {t : Range} (h : Rg (2 * b + 12) t) (hb : 2 * b + 16 ≤ bits i) : KR i t.sure (some t) := by
  obtain ⟨s1, s2, s3⟩ := sure_size h
  have key := range_rg (b := bits i) (k := t.sure) s1 (fun x e => (s2 x e).mono (by omega)) (fun y e => (s3 y e).mono (by omega))
  have ln := sure_len (2 * b + 12) t h.ok h.lo.d h.hi.d
  refine ⟨s1, by omega, fun r e => ?_, fun r e => ?_, ?_, sure_can h.ok⟩
  · rcases key with ⟨_, n⟩ | ⟨_, r', e', g⟩
    · rw [n] at e; cases e
    · rw [e'] at e
      have e := Option.some.inj e
      subst e
      exact g
  · have e := Option.some.inj e
    subst e
    exact h.mono (by omega)
  · rcases key with ⟨n, m⟩ | ⟨n, r', e', g⟩
    · exact ⟨fun _ => n, fun _ => m⟩
    · exact ⟨fun z => (by rw [e'] at z; cases z), fun z => absurd z n⟩
/-- what is known of one more item, by what is known of those ahead -/
def knownOf (m : List (Known × Option Range)) : Item → Known × Option Range
  | .stream k => (k, k.range)
  | .node F x y => match (m.getD x (⟨[], false⟩, none)).1.range, (m.getD y (⟨[], false⟩, none)).1.range with
    | some r, some s => (match image F r s with
      | some t => (t.sure, some t)
      | none => (⟨[], false⟩, none))
    | _, _ => (⟨[], false⟩, none)
theorem knowns_snoc (l : List Item) (it : Item) : knowns (l ++ [it]) = knowns l ++ [knownOf (knowns l) it] := by
  unfold knowns
  rw [List.foldl_append]
  rfl
theorem snoc_ind {P : List Item → Prop} (h0 : P []) (h1 : ∀ l a, P l → P (l ++ [a])) (l : List Item) : P l := by
  have : ∀ r : List Item, P r.reverse := by
    intro r
    induction r with
    | nil => exact h0
    | cons a r ih => rw [List.reverse_cons]; exact h1 _ _ ih
  have q := this l.reverse
  rwa [List.reverse_reverse] at q
theorem knowns_len (l : List Item) : (knowns l).length = l.length := by
  refine snoc_ind (P := fun l => (knowns l).length = l.length) rfl (fun l a ih => ?_) l
  rw [knowns_snoc]
  simp [ih]
theorem knowns_take (l : List Item) : ∀ n, knowns (l.take n) = (knowns l).take n := by
  refine snoc_ind (P := fun l => ∀ n, knowns (l.take n) = (knowns l).take n) (fun n => by simp [knowns]) (fun l a ih n => ?_) l
  by_cases c : n ≤ l.length
  · rw [List.take_append_of_le_length c, ih, knowns_snoc, List.take_append_of_le_length (by rw [knowns_len]; exact c)]
  · rw [List.take_of_length_le (by simp; omega), List.take_of_length_le (by rw [knowns_len]; simp; omega)]
/-- what is known of the item of a number, by the items ahead of it -/
theorem knowns_at {l : List Item} {i : Nat} {it : Item} (h : l[i]? = some it) : (knowns l)[i]? = some (knownOf ((knowns l).take i) it) := by
  have hi : i < l.length := (List.getElem?_eq_some_iff.mp h).1
  have e : l.take (i + 1) = l.take i ++ [it] := by
    rw [List.take_add_one, h]; rfl
  have k := knowns_take l (i + 1)
  rw [e, knowns_snoc, knowns_take] at k
  have k2 : (knowns l)[i]? = ((knowns l).take (i + 1))[i]? := by rw [List.getElem?_take, if_pos (by omega)]
  rw [k2, ← k, List.getElem?_append_right (by rw [List.length_take, knowns_len]; omega)]
  rw [List.length_take, knowns_len, Nat.min_eq_left (by omega), Nat.sub_self]
  rfl
theorem Good.knowns {l : List Item} (g : Good l) : ∀ i k o, (knowns l)[i]? = some (k, o) → KR i k o := by
  intro i
  induction i using Nat.strongRecOn with
  | ind i ih =>
    intro k o h
    have hi : i < l.length := by have := (List.getElem?_eq_some_iff.mp h).1; rwa [knowns_len] at this
    obtain ⟨it, hit⟩ : ∃ it, l[i]? = some it := ⟨_, List.getElem?_eq_getElem hi⟩
    have e := knowns_at hit
    rw [h] at e
    have e := Option.some.inj e
    have ok := g i it hit
    cases it with
    | stream k0 =>
      have e : (k, o) = (k0, k0.range) := e
      cases e
      exact stream_kr ok i
    | node F x y =>
      obtain ⟨hF, hx, hy⟩ := ok
      cases i with
      | zero => omega
      | succ j =>
        have e : (k, o) = knownOf ((Re04.knowns l).take (j + 1)) (.node F x y) := e
        unfold knownOf at e
        obtain ⟨kx, hkx⟩ : ∃ kx, (Re04.knowns l)[x]? = some kx := ⟨_, List.getElem?_eq_getElem (by rw [knowns_len]; omega)⟩
        obtain ⟨ky, hky⟩ : ∃ ky, (Re04.knowns l)[y]? = some ky := ⟨_, List.getElem?_eq_getElem (by rw [knowns_len]; omega)⟩
        have g1 : ((Re04.knowns l).take (j + 1)).getD x (⟨[], false⟩, none) = kx := by
          rw [List.getD_eq_getElem?_getD, List.getElem?_take, if_pos (by omega), hkx]; rfl
        have g2 : ((Re04.knowns l).take (j + 1)).getD y (⟨[], false⟩, none) = ky := by
          rw [List.getD_eq_getElem?_getD, List.getElem?_take, if_pos (by omega), hky]; rfl
        simp only [g1, g2] at e
        have i1 := ih x hx kx.1 kx.2 hkx
        have i2 := ih y hy ky.1 ky.2 hky
        cases hr : kx.1.range with
        | none => rw [hr] at e; simp only at e; cases e; exact none_kr _
        | some r =>
          cases hs : ky.1.range with
          | none => rw [hr, hs] at e; simp only at e; cases e; exact none_kr _
          | some s =>
            rw [hr, hs] at e
            simp only at e
            cases ht : image F r s with
            | none => rw [ht] at e; simp only at e; cases e; exact none_kr _
            | some t =>
              rw [ht] at e
              simp only at e
              cases e
              exact node_kr (b := bits j) (image_rg hF ((i1.own r hr).mono (bits_le _ _ (by omega))) ((i2.own s hs).mono (bits_le _ _ (by omega))) ht) (Nat.le_refl _)
end TQ

/-! A house stays as it should be, call by call. Core Lean alone. -/
namespace TQ
open Re04
structure St (s : State) : Prop where
  good : Good s.items
  most : s.items.length ≤ 8
theorem st_init : St init := ⟨fun i it h => (by simp [init] at h), by simp [init]⟩
theorem Good.snoc {l : List Item} {it : Item} (g : Good l) (h : IOk l.length it) : Good (l ++ [it]) := by
  intro i jt e
  by_cases c : i < l.length
  · rw [List.getElem?_append_left c] at e
    exact g i jt e
  · rw [List.getElem?_append_right (by omega)] at e
    have z : i - l.length = 0 := by
      have := (List.getElem?_eq_some_iff.mp e).1
      simp at this
      omega
    rw [z] at e
    have e : it = jt := Option.some.inj e
    subst e
    have : i = l.length := by omega
    rw [this]
    exact h
theorem Good.put {l : List Item} {j : Nat} {k : Known} (g : Good l) (h : KOk k) : Good (l.set j (.stream k)) := by
  intro i jt e
  by_cases c : i = j
  · subst c
    by_cases z : i < l.length
    · rw [List.getElem?_set_self z] at e
      have e := Option.some.inj e
      subst e
      exact h
    · rw [List.getElem?_eq_none (by simp; omega)] at e
      cases e
  · rw [List.getElem?_set_ne (fun q => c q.symm)] at e
    exact g i jt e
theorem open_some {s : State} {i : Nat} {k : Known} (h : s.open_ i = .ok k) : s.items[i]? = some (.stream k) ∧ k.ended = false := by
  unfold State.open_ at h
  cases e : s.items[i]? with
  | none => rw [e] at h; cases h
  | some it =>
    cases it with
    | node F x y => rw [e] at h; cases h
    | stream k0 =>
      rw [e] at h
      simp only at h
      by_cases c : k0.ended = true
      · rw [if_pos c] at h; cases h
      · rw [if_neg c] at h
        cases h
        exact ⟨rfl, by simpa using c⟩
theorem KOk.fed {k : Known} {a : Int} (h : KOk k) (h1 : ¬ (TOP < a.natAbs ∨ (k.terms ≠ [] ∧ a < 1))) (h2 : ¬ LONG ≤ k.terms.length) : KOk ⟨k.terms ++ [a], false⟩ := by
  have t : TOP = 1000 := rfl
  have l : LONG = 30 := rfl
  have n1 : ¬ TOP < a.natAbs := fun z => h1 (.inl z)
  have n2 : k.terms ≠ [] → 1 ≤ a := fun z => by
    rcases Int.lt_or_le a 1 with w | w
    · exact absurd (.inr ⟨z, w⟩) h1
    · exact w
  refine ⟨?_, ?_, ?_, fun e => (by cases e)⟩
  · intro x m
    cases e : k.terms with
    | nil => simp [e] at m
    | cons b r =>
      have m : x ∈ r ++ [a] := by simpa [e] using m
      rcases List.mem_append.mp m with m | m
      · exact h.tail x (by rw [e]; exact m)
      · have : x = a := by simpa using m
        rw [this]
        exact n2 (by rw [e]; simp)
  · intro x m
    rcases List.mem_append.mp m with m | m
    · exact h.most x m
    · have : x = a := by simpa using m
      rw [this]; omega
  · simp; omega
theorem funOf_ok {l : List Int} {F : Fun} (h : funOf l = some F) : FOk F := by
  unfold funOf at h
  split at h
  · rename_i a b c d e f g i
    by_cases z : (([a, b, c, d, e, f, g, i] : List Int).all fun z => decide (z.natAbs ≤ TOP)) = true
    · rw [if_pos z] at h
      have h := Option.some.inj h
      subst h
      simp only [List.all_cons, List.all_nil, Bool.and_true, Bool.and_eq_true, decide_eq_true_eq] at z
      obtain ⟨z1, z2, z3, z4, z5, z6, z7, z8⟩ := z
      exact ⟨z1, z2, z3, z4, z5, z6, z7, z8⟩
    · rw [if_neg z] at h; cases h
  · cases h
theorem St.step {s : State} (h : St s) (c : Call) : St (Re04.step s c).1 := by
  cases c with
  | begin => exact st_init
  | stream =>
    show St (if MOST ≤ s.items.length then (s, ok (-5)) else (⟨s.items ++ [.stream ⟨[], false⟩]⟩, ok (s.items.length : Nat))).1
    by_cases c : MOST ≤ s.items.length
    · rw [if_pos c]; exact h
    · rw [if_neg c]
      have m : MOST = 8 := rfl
      exact ⟨h.good.snoc (it := .stream ⟨[], false⟩) ⟨fun t m => (by simp at m), fun t m => (by simp at m), by simp, fun e => (by cases e)⟩, by simp; omega⟩
  | feed i a =>
    show St (match s.open_ i with
      | .error e => (s, ok e)
      | .ok k => if TOP < a.natAbs ∨ (k.terms ≠ [] ∧ a < 1) then (s, ok (-1)) else if LONG ≤ k.terms.length then (s, ok (-5)) else (s.put i ⟨k.terms ++ [a], false⟩, ok (k.terms.length + 1 : Nat))).1
    cases e : s.open_ i with
    | error _ => exact h
    | ok k =>
      simp only
      by_cases c : TOP < a.natAbs ∨ (k.terms ≠ [] ∧ a < 1)
      · rw [if_pos c]; exact h
      · rw [if_neg c]
        by_cases d : LONG ≤ k.terms.length
        · rw [if_pos d]; exact h
        · rw [if_neg d]
          have ko : KOk k := h.good i _ (open_some e).1
          exact ⟨h.good.put (ko.fed c d), by show (s.items.set i _).length ≤ 8; rw [List.length_set]; exact h.most⟩
  | close i =>
    show St (match s.open_ i with
      | .error e => (s, ok e)
      | .ok k => if k.terms = [] ∨ (2 ≤ k.terms.length ∧ k.terms.getLastD 0 = 1) then (s, ok (-3)) else (s.put i ⟨k.terms, true⟩, ok 0)).1
    cases e : s.open_ i with
    | error _ => exact h
    | ok k =>
      simp only
      by_cases c : k.terms = [] ∨ (2 ≤ k.terms.length ∧ k.terms.getLastD 0 = 1)
      · rw [if_pos c]; exact h
      · rw [if_neg c]
        have ko : KOk k := h.good i _ (open_some e).1
        exact ⟨h.good.put (k := ⟨k.terms, true⟩) ⟨ko.tail, ko.most, ko.long, fun _ => c⟩, by show (s.items.set i _).length ≤ 8; rw [List.length_set]; exact h.most⟩
  | node x y l =>
    show St (if s.items.length ≤ x ∨ s.items.length ≤ y then (s, ok (-2)) else match funOf l with
      | none => (s, ok (-1))
      | some F => if MOST ≤ s.items.length then (s, ok (-5)) else (⟨s.items ++ [.node F x y]⟩, ok (s.items.length : Nat))).1
    by_cases c : s.items.length ≤ x ∨ s.items.length ≤ y
    · rw [if_pos c]; exact h
    · rw [if_neg c]
      cases e : funOf l with
      | none => exact h
      | some F =>
        simp only
        by_cases d : MOST ≤ s.items.length
        · rw [if_pos d]; exact h
        · rw [if_neg d]
          have m : MOST = 8 := rfl
          exact ⟨h.good.snoc (it := .node F x y) ⟨funOf_ok e, by omega, by omega⟩, by simp; omega⟩
  | sure i => exact h
  | range i => exact h
  | digits i p => exact h
  | may i n d => exact h
end TQ

/-! What the program's numbers (not in lowest terms) say of the specification's ranges. Core Lean alone. -/
namespace TQ
open Re04
/-- both ends as the program has them -/
structure Sn where
  ln : Int
  ld : Int
  lt : Bool
  gn : Int
  gd : Int
  gt : Bool
def rawOf (r : Range) : Sn := ⟨r.lo.n, r.lo.d, r.loIn, r.hi.n, r.hi.d, r.hiIn⟩
/-- so many bits are enough -/
def BB : Nat := bits 7
theorem BB_eq : BB = 42992 := bits_8
structure Rep (S : Sn) (r : Range) : Prop where
  ok : Ok r
  lo : Is r.lo S.ln S.ld
  hi : Is r.hi S.gn S.gd
  ld : 0 < S.ld
  gd : 0 < S.gd
  lt : S.lt = r.loIn
  gt : S.gt = r.hiIn
  one : r.lo = r.hi → r.loIn = true ∧ r.hiIn = true
  sln : S.ln.natAbs < 2 ^ BB
  sld : S.ld.natAbs < 2 ^ BB
  sgn : S.gn.natAbs < 2 ^ BB
  sgd : S.gd.natAbs < 2 ^ BB
theorem Is.self (x : Q) : Is x x.n x.d := rfl
theorem rep_raw {b : Nat} {r : Range} (h : Rg b r) (hb : b ≤ BB) (one : r.lo = r.hi → r.loIn = true ∧ r.hiIn = true) : Rep (rawOf r) r := by
  have h := h.mono hb
  refine ⟨h.ok, rfl, rfl, ?_, ?_, rfl, rfl, one, h.lo.n, ?_, h.hi.n, ?_⟩
  · have := h.ok.lo.pos
    show (0 : Int) < r.lo.d
    omega
  · have := h.ok.hi.pos
    show (0 : Int) < r.hi.d
    omega
  · show (r.lo.d : Int).natAbs < _
    rw [Int.natAbs_natCast]
    exact h.lo.d
  · show (r.hi.d : Int).natAbs < _
    rw [Int.natAbs_natCast]
    exact h.hi.d
theorem is_eq {x y : Q} {n d m e : Int} (hx : Red x) (hy : Red y) (hd : d ≠ 0) (he : e ≠ 0) (h1 : Is x n d) (h2 : Is y m e) : x = y ↔ n * e = m * d := by
  rw [← of_is hx hd h1, ← of_is hy he h2]
  exact of_eq_of hd he
theorem Rep.ne_d {S : Sn} {r : Range} (h : Rep S r) : S.ld ≠ 0 ∧ S.gd ≠ 0 := by
  have := h.ld
  have := h.gd
  omega
theorem Rep.alone {S : Sn} {r : Range} (h : Rep S r) : S.ln * S.gd - S.gn * S.ld = 0 ↔ r.lo = r.hi := by
  rw [is_eq h.ok.lo h.ok.hi h.ne_d.1 h.ne_d.2 h.lo h.hi]
  omega
theorem Is.le {x y : Q} {n d m e : Int} (hx : 0 < x.d) (hy : 0 < y.d) (hd : 0 < d) (he : 0 < e) (h1 : Is x n d) (h2 : Is y m e) (l : x.n * y.d ≤ y.n * x.d) : n * e ≤ m * d := by
  have k := lt_of_is hy hx he hd h2 h1
  have nl : ¬ y.lt x = true := fun z => by have := lt_iff.mp z; omega
  rw [k] at nl
  exact Int.not_lt.mp fun z => nl (decide_eq_true z)
/-! ### the whole part that all have -/
def wpg (m e : Int) (i : Bool) : Int := if i = true then m / e else (m - 1) / e
theorem div_is {a m e : Int} (he : 0 < e) (h1 : a * e ≤ m) (h2 : m < (a + 1) * e) : m / e = a := by
  have k1 : a ≤ m / e := (Int.le_ediv_iff_mul_le he).mpr h1
  have k2 : m / e < a + 1 := (Int.ediv_lt_iff_lt_mul he).mpr h2
  omega
theorem div_lt {a m e : Int} (he : 0 < e) (h : m / e = a) : m < (a + 1) * e := (Int.ediv_lt_iff_lt_mul he).mp (by omega)
theorem part_core {r : Range} {n d m e : Int} (ok : Ok r) (h1 : Is r.lo n d) (h2 : Is r.hi m e) (hd : 0 < d) (he : 0 < e) (one : r.lo = r.hi → r.hiIn = true) :
    (wpg m e r.hiIn = n / d ↔ (r.lo = r.hi ∨ sameFloor r = true)) ∧ r.lo.floor = n / d := by
  have fl : r.lo.floor = n / d := floor_of_is ok.lo.pos hd h1
  refine ⟨?_, fl⟩
  have le := h1.le ok.lo.pos ok.hi.pos hd he h2 ok.le
  have eqi := is_eq ok.lo ok.hi (show d ≠ 0 by omega) (show e ≠ 0 by omega) h1 h2
  unfold sameFloor
  rw [fl]
  generalize ha : n / d = a at *
  have a1 : a * d ≤ n := (Int.le_ediv_iff_mul_le hd).mp (by omega)
  have a2 : a * e ≤ m := by
    have k := Int.mul_le_mul_of_nonneg_right a1 (show 0 ≤ e by omega)
    have k2 : a * e * d ≤ m * d := by
      have : a * e * d = a * d * e := by grind
      omega
    exact Int.le_of_mul_le_mul_right k2 hd
  have l1 : r.hi.lt ⟨a + 1, 1⟩ = decide (m < (a + 1) * e) := by
    rw [lt_of_is (y := ⟨a + 1, 1⟩) ok.hi.pos (by show 0 < 1; omega) he (show (0:Int) < 1 by omega) h2 (Is.self ⟨a + 1, 1⟩)]
    show decide (m * 1 < (a + 1) * e) = _
    rw [Int.mul_one]
  have l2 : (r.hi = ⟨a + 1, 1⟩) ↔ m = (a + 1) * e := by
    rw [is_eq ok.hi (red_whole (a + 1)) (show e ≠ 0 by omega) (show (1 : Int) ≠ 0 by omega) h2 (Is.self ⟨a + 1, 1⟩)]
    show m * 1 = (a + 1) * e ↔ _
    rw [Int.mul_one]
  rw [l1]
  cases hi : r.hiIn with
  | true =>
    simp only [wpg, if_true, Bool.not_true, Bool.and_false, Bool.or_false, decide_eq_true_eq]
    constructor
    · intro h
      exact .inr (div_lt he h)
    · rintro (h | h)
      · rw [← ha]
        exact (ediv_of_cross hd he (eqi.mp h)).symm
      · exact div_is he a2 h
  | false =>
    have ne : ¬ r.lo = r.hi := fun z => by rw [one z] at hi; cases hi
    have nee : ¬ n * e = m * d := fun z => ne (eqi.mpr z)
    have a3 : a * e < m := by
      have k := Int.mul_le_mul_of_nonneg_right a1 (show 0 ≤ e by omega)
      have k2 : a * e * d < m * d := by
        have : a * e * d = a * d * e := by grind
        omega
      exact Int.lt_of_mul_lt_mul_right k2 (by omega)
    simp only [wpg, Bool.false_eq_true, if_false, Bool.not_false, Bool.and_true, Bool.or_eq_true, decide_eq_true_eq]
    rw [l2]
    constructor
    · intro h
      have := div_lt he h
      omega
    · rintro (h | h)
      · exact absurd h ne
      · exact div_is he (by omega) (by omega)
def swp (S : Sn) (t : Int) : Option Int := if wpg (S.gn * t) S.gd S.gt = S.ln * t / S.ld then some (S.ln * t / S.ld) else none
theorem Rep.swp1 {S : Sn} {r : Range} (h : Rep S r) (ne : r.lo ≠ r.hi) : swp S 1 = if sameFloor r = true then some r.lo.floor else none := by
  have k := part_core h.ok h.lo h.hi h.ld h.gd fun z => (h.one z).2
  unfold swp
  rw [Int.mul_one, Int.mul_one, h.gt, k.2]
  by_cases c : sameFloor r = true
  · rw [if_pos c, if_pos (k.1.mpr (.inr c))]
  · rw [if_neg c, if_neg fun z => (k.1.mp z).elim ne c]
theorem Is.mul {x : Q} {n d : Int} (t : Int) (hx : 0 < x.d) (hd : 0 < d) (h : Is x n d) : Is (Q.of (x.n * t) x.d) (n * t) d := by
  obtain ⟨r, i⟩ := of_pos_spec (x.n * t) x.d (by omega)
  unfold Is at *
  generalize Q.of (x.n * t) x.d = y at *
  have hp : (x.d : Int) ≠ 0 := by omega
  have : (y.n * d) * x.d = (n * t * y.d) * x.d := by grind
  exact Int.eq_of_mul_eq_mul_right hp this
theorem Rep.digits {S : Sn} {r : Range} (h : Rep S r) (p : Nat) : swp S (10 ^ p) = Re04.digits r p := by
  have tp : (0 : Int) < 10 ^ p := Int.pow_pos (by omega)
  unfold Re04.digits swp
  simp only
  generalize (10 : Int) ^ p = t at *
  have lo := h.lo.mul t h.ok.lo.pos h.ld
  have hi := h.hi.mul t h.ok.hi.pos h.gd
  have r1 := (of_pos_spec (r.lo.n * t) r.lo.d (by have := h.ok.lo.pos; omega)).1
  have r2 := (of_pos_spec (r.hi.n * t) r.hi.d (by have := h.ok.hi.pos; omega)).1
  have le := h.lo.le h.ok.lo.pos h.ok.hi.pos h.ld h.gd h.hi h.ok.le
  have hld := h.ld
  have hgd := h.gd
  have ok : Ok ⟨Q.of (r.lo.n * t) r.lo.d, r.loIn, Q.of (r.hi.n * t) r.hi.d, r.hiIn⟩ := by
    refine ⟨r1, r2, ?_⟩
    show (Q.of (r.lo.n * t) r.lo.d).n * ((Q.of (r.hi.n * t) r.hi.d).d : Int) ≤ (Q.of (r.hi.n * t) r.hi.d).n * ((Q.of (r.lo.n * t) r.lo.d).d : Int)
    refine Int.not_lt.mp fun z => ?_
    have k := lt_of_is r2.pos r1.pos hgd hld hi lo
    rw [lt_iff.mpr z] at k
    have k := of_decide_eq_true k.symm
    have e1 : S.gn * t * S.ld = S.gn * S.ld * t := by grind
    have e2 : S.ln * t * S.gd = S.ln * S.gd * t := by grind
    rw [e1, e2] at k
    have := Int.lt_of_mul_lt_mul_right k (by omega)
    omega
  have one : Q.of (r.lo.n * t) r.lo.d = Q.of (r.hi.n * t) r.hi.d → r.hiIn = true := fun z => by
    refine (h.one (h.alone.mp ?_)).2
    have k := (is_eq r1 r2 (by omega) (by omega) lo hi).mp z
    have e : (S.ln * S.gd) * t = (S.gn * S.ld) * t := by grind
    have := Int.eq_of_mul_eq_mul_right (show t ≠ 0 by omega) e
    omega
  have k := part_core ok lo hi hld hgd one
  have k2 : (Q.of (r.lo.n * t) r.lo.d).floor = S.ln * t / S.ld := k.2
  rw [h.gt, k2]
  by_cases c : wpg (S.gn * t) S.gd r.hiIn = S.ln * t / S.ld
  · rw [if_pos c, if_pos (k.1.mp c)]
  · rw [if_neg c, if_neg fun z => c (k.1.mpr z)]
/-! ### whether a fraction lies within -/
def lies (S : Sn) (n d : Int) : Bool := if n * S.ld - S.ln * d = 0 then S.lt else if n * S.gd - S.gn * d = 0 then S.gt else decide (0 < n * S.ld - S.ln * d) && decide (n * S.gd - S.gn * d < 0)
theorem Rep.has {S : Sn} {r : Range} (h : Rep S r) (n d : Int) (hd : 0 < d) : lies S n d = r.has (Q.of n d) := by
  obtain ⟨rx, ix⟩ := of_pos_spec n d hd
  generalize Q.of n d = x at *
  have e1 := is_eq rx h.ok.lo (show d ≠ 0 by omega) h.ne_d.1 ix h.lo
  have e2 := is_eq rx h.ok.hi (show d ≠ 0 by omega) h.ne_d.2 ix h.hi
  have l1 := lt_of_is h.ok.lo.pos rx.pos h.ld hd h.lo ix
  have l2 := lt_of_is rx.pos h.ok.hi.pos hd h.gd ix h.hi
  unfold Range.has lies
  rw [l1, l2, h.lt, h.gt]
  by_cases c1 : n * S.ld - S.ln * d = 0
  · rw [if_pos c1]
    have xe : x = r.lo := e1.mpr (by omega)
    rw [decide_eq_false (show ¬ S.ln * d < n * S.ld by omega), decide_eq_true xe]
    by_cases c : r.lo = r.hi
    · obtain ⟨o1, o2⟩ := h.one c
      rw [o1, o2, decide_eq_true (xe.trans c)]
      simp
    · have le := h.ok.le
      have ne : ¬ r.lo.n * r.hi.d = r.hi.n * r.lo.d := fun z => c (red_unique h.ok.lo h.ok.hi z)
      have lt : x.lt r.hi = true := by rw [xe]; exact lt_iff.mpr (by omega)
      rw [l2] at lt
      rw [lt]
      simp
  · rw [if_neg c1]
    have xe : ¬ x = r.lo := fun z => c1 (by have := e1.mp z; omega)
    rw [decide_eq_false xe]
    by_cases c2 : n * S.gd - S.gn * d = 0
    · rw [if_pos c2]
      have xh : x = r.hi := e2.mpr (by omega)
      have le := h.ok.le
      have ne : ¬ r.lo.n * r.hi.d = r.hi.n * r.lo.d := fun z => xe (xh.trans (red_unique h.ok.lo h.ok.hi z).symm)
      have lt : r.lo.lt x = true := by rw [xh]; exact lt_iff.mpr (by omega)
      rw [l1] at lt
      rw [lt, decide_eq_true xh, decide_eq_false (show ¬ n * S.gd < S.gn * d by omega)]
      simp
    · rw [if_neg c2]
      have xh : ¬ x = r.hi := fun z => c2 (by have := e2.mp z; omega)
      rw [decide_eq_false xh]
      simp only [Bool.and_false, Bool.or_false]
      have k1 : decide (0 < n * S.ld - S.ln * d) = decide (S.ln * d < n * S.ld) := decide_eq_decide.mpr (by omega)
      have k2 : decide (n * S.gd - S.gn * d < 0) = decide (n * S.gd < S.gn * d) := decide_eq_decide.mpr (by omega)
      rw [k1, k2]
/-! ### one by the rest -/
theorem sub_abs {x y : Int} {b : Nat} (h0 : 0 < x) (h : x ≤ y) (hy : y.natAbs < 2 ^ b) : x.natAbs < 2 ^ b := by omega
theorem Rep.nxt {S : Sn} {r : Range} (h : Rep S r) (ne : r.lo ≠ r.hi) (s : sameFloor r = true) (c : r.lo.n - r.lo.floor * r.lo.d ≠ 0) :
    Rep ⟨S.gd, S.gn - r.lo.floor * S.gd, S.gt, S.ld, S.ln - r.lo.floor * S.ld, S.lt⟩ (nxt r) ∧ S.gn - r.lo.floor * S.gd + (S.ln - r.lo.floor * S.ld) < S.ld + S.gd := by
  have hld := h.ld
  have hgd := h.gd
  have fl : r.lo.floor = S.ln / S.ld := floor_of_is h.ok.lo.pos hld h.lo
  have f1 : r.lo.floor * S.ld ≤ S.ln := (Int.le_ediv_iff_mul_le hld).mp (by omega)
  have f2 : S.ln < (r.lo.floor + 1) * S.ld := div_lt hld fl.symm
  have f2' : (r.lo.floor + 1) * S.ld = r.lo.floor * S.ld + S.ld := by grind
  have a := h.ok.hi_above ne
  have t := sameFloor_le s
  have t2 : (r.lo.floor + 1) * (r.hi.d : Int) = r.lo.floor * r.hi.d + r.hi.d := by grind
  have b := floor_le h.ok.lo.pos
  have pl := h.ok.lo.pos
  have ph := h.ok.hi.pos
  have il : r.lo.n * S.ld = S.ln * r.lo.d := h.lo
  have ih : r.hi.n * S.gd = S.gn * r.hi.d := h.hi
  have g1 : 0 < S.gn - r.lo.floor * S.gd := by
    have k : 0 < (S.gn - r.lo.floor * S.gd) * r.hi.d := by
      have e : (S.gn - r.lo.floor * S.gd) * r.hi.d = (r.hi.n - r.lo.floor * r.hi.d) * S.gd := by grind
      rw [e]
      exact Int.mul_pos a hgd
    exact Int.pos_of_mul_pos_left k (by omega)
  have g2 : S.gn - r.lo.floor * S.gd ≤ S.gd := by
    have k : (S.gn - r.lo.floor * S.gd) * r.hi.d ≤ S.gd * r.hi.d := by
      have e : (S.gn - r.lo.floor * S.gd) * r.hi.d = (r.hi.n - r.lo.floor * r.hi.d) * S.gd := by grind
      rw [e, Int.mul_comm S.gd]
      exact Int.mul_le_mul_of_nonneg_right (by omega) (by omega)
    exact Int.le_of_mul_le_mul_right k (by omega)
  have g3 : 0 < S.ln - r.lo.floor * S.ld := by
    have k : 0 < (S.ln - r.lo.floor * S.ld) * r.lo.d := by
      have e : (S.ln - r.lo.floor * S.ld) * r.lo.d = (r.lo.n - r.lo.floor * r.lo.d) * S.ld := by grind
      rw [e]
      exact Int.mul_pos (by omega) hld
    exact Int.pos_of_mul_pos_left k (by omega)
  refine ⟨⟨h.ok.nxt ne c, ?_, ?_, g1, g3, h.gt, h.lt, fun z => absurd z (nxt_ne h.ok ne c), h.sgd, sub_abs g1 g2 h.sgd, h.sld, sub_abs g3 (show S.ln - r.lo.floor * S.ld ≤ S.ld by omega) h.sld⟩, by omega⟩
  · show Is (r.hi.rest r.lo.floor) S.gd (S.gn - r.lo.floor * S.gd)
    rw [rest_eq h.ok.hi a]
    show (r.hi.d : Int) * (S.gn - r.lo.floor * S.gd) = S.gd * ((r.hi.n - r.lo.floor * r.hi.d).toNat : Int)
    rw [Int.toNat_of_nonneg (by omega)]
    grind
  · show Is (r.lo.rest r.lo.floor) S.ld (S.ln - r.lo.floor * S.ld)
    rw [rest_d h.ok.lo c]
    show (r.lo.d : Int) * (S.ln - r.lo.floor * S.ld) = S.ld * ((r.lo.n - r.lo.floor * r.lo.d).toNat : Int)
    rw [Int.toNat_of_nonneg (by omega)]
    grind
theorem Rep.floor {S : Sn} {r : Range} (h : Rep S r) : r.lo.floor = S.ln / S.ld := floor_of_is h.ok.lo.pos h.ld h.lo
theorem Rep.whole {S : Sn} {r : Range} (h : Rep S r) : S.ln = r.lo.floor * S.ld ↔ r.lo.n - r.lo.floor * r.lo.d = 0 := by
  have il : r.lo.n * S.ld = S.ln * r.lo.d := h.lo
  have hld := h.ld
  have pl := h.ok.lo.pos
  constructor
  · intro e
    have k : r.lo.n * S.ld = (r.lo.floor * r.lo.d) * S.ld := by grind
    have := Int.eq_of_mul_eq_mul_right (show S.ld ≠ 0 by omega) k
    omega
  · intro e
    have k : S.ln * r.lo.d = (r.lo.floor * S.ld) * r.lo.d := by grind
    exact Int.eq_of_mul_eq_mul_right (show (r.lo.d : Int) ≠ 0 by omega) k
theorem floor_size {n d : Int} {b : Nat} (hd : 0 < d) (hn : n.natAbs < 2 ^ b) : (n / d).natAbs < 2 ^ (b + 1) := by
  have := Int.natAbs_ediv_le_natAbs n d
  rw [Nat.pow_succ]
  omega
/-! ### a fraction's terms, turn by turn -/
theorem terms_step {x : Q} {n d : Int} (hx : Red x) (hd : 0 < d) (h : Is x n d) : (n % d = 0 → x.terms = [n / d]) ∧ (n % d ≠ 0 → x.terms = n / d :: (x.rest (n / d)).terms ∧ Red (x.rest (n / d)) ∧ Is (x.rest (n / d)) d (n % d)) := by
  have fl : x.floor = n / d := floor_of_is hx.pos hd h
  have il : x.n * d = n * x.d := h
  have p := hx.pos
  have em := Int.mul_ediv_add_emod n d
  have key : (x.n - x.floor * x.d) * d = (n % d) * x.d := by
    rw [fl]
    have : n % d = n - d * (n / d) := by omega
    rw [this]
    grind
  have iff : x.n - x.floor * x.d = 0 ↔ n % d = 0 := by
    constructor
    · intro z
      rw [z, Int.zero_mul] at key
      rcases Int.mul_eq_zero.mp key.symm with z | z
      · exact z
      · omega
    · intro z
      rw [z, Int.zero_mul] at key
      rcases Int.mul_eq_zero.mp key with z | z
      · exact z
      · omega
  refine ⟨fun z => ?_, fun z => ?_⟩
  · rw [terms_last (iff.mpr z), fl]
  · have c : x.n - x.floor * x.d ≠ 0 := fun q => z (iff.mp q)
    rw [← fl]
    refine ⟨terms_more hx c, rest_red c, ?_⟩
    rw [rest_d hx c]
    have b := floor_le p
    show (x.d : Int) * (n % d) = d * ((x.n - x.floor * x.d).toNat : Int)
    rw [Int.toNat_of_nonneg (by omega), Int.mul_comm d, key, Int.mul_comm]
/-! ### in lowest terms -/
theorem lowest {x : Q} {n d : Int} (hx : Red x) (hd : 0 < d) (h : Is x n d) : n / (Int.gcd n d : Int) = x.n ∧ d / (Int.gcd n d : Int) = (x.d : Int) := by
  have e := of_is hx (by omega) h
  rw [of_pos n d hd] at e
  rw [← e]
  refine ⟨rfl, ?_⟩
  show d / (Int.gcd n d : Int) = ((d.toNat / Int.gcd n d : Nat) : Int)
  rw [Int.natCast_ediv, Int.toNat_of_nonneg (by omega)]
/-! ### which is greater: the terms, or those with the last one more by one -/
theorem more_diff : ∀ (l : List Int) (p q : Q), l ≠ [] → Tail l → ofTerms l = some p → ofTerms (more l) = some q → p.n * q.d - q.n * p.d = if l.length % 2 = 1 then -1 else 1
  | [], _, _, h, _, _, _ => absurd rfl h
  | [a], p, q, _, _, e1, e2 => by
    have e1 : (⟨a, 1⟩ : Q) = p := Option.some.inj e1
    have e2 : (⟨a + 1, 1⟩ : Q) = q := Option.some.inj e2
    subst e1
    subst e2
    show a * 1 - (a + 1) * 1 = _
    simp
    omega
  | a :: b :: l, p, q, _, ht, e1, e2 => by
    obtain ⟨x, ex, rx, px⟩ := ofTerms_pos (b :: l) (by simp) ht.tl
    obtain ⟨y, ey, ry, py⟩ := ofTerms_pos (more (b :: l)) (more_ne (by simp)) (more_pos ht.tl)
    have qx := rx.pos
    have qy := ry.pos
    have ih := more_diff (b :: l) x y (by simp) (fun t m => ht.tl t (List.mem_of_mem_tail m)) ex ey
    rw [more_cons] at e2
    have e1 := Option.some.inj ((ofTerms_cons ex rx (by omega)).symm.trans e1)
    have e2 := Option.some.inj ((ofTerms_cons ey ry (by omega)).symm.trans e2)
    subst e1
    subst e2
    show (a * x.n + x.d) * (y.n.toNat : Int) - (a * y.n + y.d) * (x.n.toNat : Int) = _
    rw [Int.toNat_of_nonneg (by omega), Int.toNat_of_nonneg (by omega)]
    have e : (a * x.n + x.d) * y.n - (a * y.n + y.d) * x.n = -(x.n * y.d - y.n * x.d) := by grind
    rw [e, ih]
    simp only [List.length_cons]
    by_cases c : (l.length + 1) % 2 = 1
    · rw [if_pos c, if_neg (by omega)]
      rfl
    · rw [if_neg c, if_pos (by omega)]
theorem more_lt {l : List Int} {p q : Q} (ne : l ≠ []) (ht : Tail l) (e1 : ofTerms l = some p) (e2 : ofTerms (more l) = some q) : p.lt q = decide (l.length % 2 = 1) ∧ p ≠ q := by
  have k := more_diff l p q ne ht e1 e2
  unfold Q.lt
  constructor
  · refine decide_eq_decide.mpr ?_
    by_cases c : l.length % 2 = 1
    · rw [if_pos c] at k
      omega
    · rw [if_neg c] at k
      omega
  · intro e
    rw [e] at k
    by_cases c : l.length % 2 = 1
    · rw [if_pos c] at k
      omega
    · rw [if_neg c] at k
      omega
/-- how great the terms are -/
theorem ofTerms_big : ∀ (l : List Int) (x : Q), (∀ t ∈ l, 1 ≤ t) → ofTerms l = some x → ∀ t ∈ l, t ≤ x.n
  | [], _, _, e => by cases e
  | [a], x, _, e => by
    have e : (⟨a, 1⟩ : Q) = x := Option.some.inj e
    subst e
    intro t m
    have : t = a := by simpa using m
    exact Int.le_of_eq this
  | a :: b :: l, x, h, e => by
    obtain ⟨y, ey, ry, py⟩ := ofTerms_pos (b :: l) (by simp) (fun t m => h t (by simp at m ⊢; right; exact m))
    have qy := ry.pos
    have ih := ofTerms_big (b :: l) y (fun t m => h t (by simp at m ⊢; right; exact m)) ey
    have e := Option.some.inj ((ofTerms_cons ey ry (by omega)).symm.trans e)
    subst e
    have a1 := h a (by simp)
    have k1 := Int.mul_le_mul_of_nonneg_right a1 (show 0 ≤ y.n by omega)
    have k2 := Int.mul_le_mul_of_nonneg_left (show 1 ≤ y.n by omega) (show 0 ≤ a by omega)
    intro t m
    show t ≤ a * y.n + y.d
    rcases List.mem_cons.mp m with m | m
    · omega
    · have := ih t m
      omega
theorem ofTerms_abs {l : List Int} {x : Q} (ht : Tail l) (e : ofTerms l = some x) : ∀ t ∈ l, t.natAbs ≤ x.n.natAbs + x.d := by
  match l, ht, e with
  | [], _, e => cases e
  | [a], _, e =>
    have e : (⟨a, 1⟩ : Q) = x := Option.some.inj e
    subst e
    intro t m
    have : t = a := by simpa using m
    rw [this]
    show a.natAbs ≤ a.natAbs + 1
    omega
  | a :: b :: l, ht, e =>
    obtain ⟨y, ey, ry, py⟩ := ofTerms_pos (b :: l) (by simp) ht.tl
    have qy := ry.pos
    have ih := ofTerms_big (b :: l) y ht.tl ey
    have e := Option.some.inj ((ofTerms_cons ey ry (by omega)).symm.trans e)
    subst e
    intro t m
    show t.natAbs ≤ (a * y.n + y.d).natAbs + y.n.toNat
    rcases List.mem_cons.mp m with m | m
    · have k : (a * y.n).natAbs = a.natAbs * y.n.natAbs := Int.natAbs_mul _ _
      have k2 : a.natAbs * 1 ≤ a.natAbs * y.n.natAbs := Nat.mul_le_mul_left _ (by omega)
      rw [m]
      omega
    · have := ih t m
      have := ht.tl t m
      omega
end TQ

/-! A node's corners. Core Lean alone. -/
namespace TQ
open Re04
/-- the upper or the lower part, as the program reckons it -/
def pv (f0 f1 f2 f3 xn xd yn yd : Int) : Int := f0 * xn * yn + f1 * xn * yd + f2 * xd * yn + f3 * xd * yd
theorem pv_above (F : Fun) (x y : Q) : pv F.a F.b F.c F.d x.n x.d y.n y.d = above F x y := by
  unfold pv above
  grind
theorem pv_below (F : Fun) (x y : Q) : pv F.e F.f F.g F.h x.n x.d y.n y.d = below F x y := by
  unfold pv below
  grind
def aboves (F : Fun) (r s : Range) : List Int := [above F r.lo s.lo, above F r.lo s.hi, above F r.hi s.lo, above F r.hi s.hi]
def belows (F : Fun) (r s : Range) : List Int := [below F r.lo s.lo, below F r.lo s.hi, below F r.hi s.lo, below F r.hi s.hi]
/-- the sign of the lower part at the first corner -/
def sg (F : Fun) (r s : Range) : Int := if below F r.lo s.lo < 0 then -1 else 1
theorem sg_or (F : Fun) (r s : Range) : sg F r s = -1 ∨ sg F r s = 1 := by
  unfold sg
  split <;> simp
def sign (F : Fun) (r s : Range) (l : List Int) : List Int := if below F r.lo s.lo < 0 then l.map (fun z => -z) else l
theorem safe_iff (F : Fun) (r s : Range) : ((sign F r s (belows F r s)).all fun z => decide (0 < z)) = safe F r s := by
  unfold safe sign belows
  by_cases c : below F r.lo s.lo < 0
  · rw [if_pos c]
    simp only [List.map_cons, List.map_nil, List.all_cons, List.all_nil, Bool.and_true]
    rw [decide_eq_true (show 0 < -below F r.lo s.lo by omega), decide_eq_false (show ¬ 0 < below F r.lo s.lo by omega), decide_eq_true c]
    simp only [Bool.true_and, Bool.false_and, Bool.false_or, Int.neg_pos]
  · rw [if_neg c]
    simp only [List.all_cons, List.all_nil, Bool.and_true]
    rw [decide_eq_false c]
    simp
/-- the corners as the program has them -/
structure Cor (c : Corner) (n d : Int) : Prop where
  red : Red c.v
  is_ : Is c.v n d
  pos : 0 < d
  sn : n.natAbs < 2 ^ BB
  sd : d.natAbs < 2 ^ BB
theorem Is.neg {x : Q} {n d : Int} (h : Is x n d) : Is x (-n) (-d) := by
  unfold Is at *
  grind
theorem cor_one {F : Fun} {x y : Q} {b : Nat} {n d : Int} {i j : Bool} (hF : FOk F) (hx : Sz b x) (hy : Sz b y) (hb : 2 * b + 12 ≤ BB) (h : (n = above F x y ∧ d = below F x y) ∨ (n = -above F x y ∧ d = -below F x y)) (hd : 0 < d) : Cor ⟨value F x y, i, j⟩ n d := by
  have ne : below F x y ≠ 0 := by omega
  obtain ⟨p1, p2⟩ := parts_abs hF hx hy
  have m : 2 ^ (2 * b + 12) ≤ 2 ^ BB := Nat.pow_le_pow_right (by omega) hb
  obtain ⟨r, i⟩ := of_spec (above F x y) (below F x y) ne
  refine ⟨r, ?_, hd, ?_, ?_⟩
  · rcases h with ⟨h1, h2⟩ | ⟨h1, h2⟩
    · rw [h1, h2]; exact i
    · rw [h1, h2]; exact i.neg
  · omega
  · omega
theorem cors {F : Fun} {r s : Range} {b : Nat} (hF : FOk F) (hr : Rg b r) (hs : Rg b s) (hb : 2 * b + 12 ≤ BB) (sf : safe F r s = true) : ∀ (i : Nat) (c : Corner) (n d : Int), (corners F r s)[i]? = some c → (sign F r s (aboves F r s))[i]? = some n → (sign F r s (belows F r s))[i]? = some d → Cor c n d := by
  rw [← safe_iff] at sf
  intro i c n d h1 h2 h3
  have hd : 0 < d := of_decide_eq_true (List.all_eq_true.mp sf d (List.mem_of_getElem? h3))
  unfold sign at h2 h3
  unfold corners at h1
  by_cases z : below F r.lo s.lo < 0
  · rw [if_pos z] at h2 h3
    match i, h1, h2, h3 with
    | 0, h1, h2, h3 => cases h1; cases h2; cases h3; exact cor_one hF hr.lo hs.lo hb (.inr ⟨rfl, rfl⟩) hd
    | 1, h1, h2, h3 => cases h1; cases h2; cases h3; exact cor_one hF hr.lo hs.hi hb (.inr ⟨rfl, rfl⟩) hd
    | 2, h1, h2, h3 => cases h1; cases h2; cases h3; exact cor_one hF hr.hi hs.lo hb (.inr ⟨rfl, rfl⟩) hd
    | 3, h1, h2, h3 => cases h1; cases h2; cases h3; exact cor_one hF hr.hi hs.hi hb (.inr ⟨rfl, rfl⟩) hd
    | _ + 4, h1, _, _ => cases h1
  · rw [if_neg z] at h2 h3
    match i, h1, h2, h3 with
    | 0, h1, h2, h3 => cases h1; cases h2; cases h3; exact cor_one hF hr.lo hs.lo hb (.inl ⟨rfl, rfl⟩) hd
    | 1, h1, h2, h3 => cases h1; cases h2; cases h3; exact cor_one hF hr.lo hs.hi hb (.inl ⟨rfl, rfl⟩) hd
    | 2, h1, h2, h3 => cases h1; cases h2; cases h3; exact cor_one hF hr.hi hs.lo hb (.inl ⟨rfl, rfl⟩) hd
    | 3, h1, h2, h3 => cases h1; cases h2; cases h3; exact cor_one hF hr.hi hs.hi hb (.inl ⟨rfl, rfl⟩) hd
    | _ + 4, h1, _, _ => cases h1
theorem least_snoc : ∀ (l : List Corner) (v : Q) (c : Corner), least v (l ++ [c]) = if c.v.lt (least v l) = true then c.v else least v l
  | [], v, c => rfl
  | a :: l, v, c => by
    show least (if a.v.lt v = true then a.v else v) (l ++ [c]) = _
    rw [least_snoc]
    rfl
theorem greatest_snoc : ∀ (l : List Corner) (v : Q) (c : Corner), greatest v (l ++ [c]) = if (greatest v l).lt c.v = true then c.v else greatest v l
  | [], v, c => rfl
  | a :: l, v, c => by
    show greatest (if v.lt a.v = true then a.v else v) (l ++ [c]) = _
    rw [greatest_snoc]
    rfl
theorem least_all : ∀ (l : List Corner) (v : Q), 0 < v.d → (∀ c ∈ l, 0 < c.v.d) → ∀ c ∈ l, Le (least v l) c.v
  | [], _, _, _ => fun c m => by cases m
  | a :: l, v, hv, h => by
    intro c m
    show Le (least (if a.v.lt v = true then a.v else v) l) c.v
    have ha := h a (by simp)
    have hl := fun c m => h c (List.mem_cons_of_mem a m)
    have hp : 0 < (if a.v.lt v = true then a.v else v).d := by split <;> assumption
    rcases List.mem_cons.mp m with m | m
    · subst m
      have k := least_le l (if c.v.lt v = true then c.v else v) hp hl
      refine k.2.trans ?_ k.1 hp ha
      by_cases t : c.v.lt v = true
      · rw [if_pos t]; exact Int.le_refl _
      · rw [if_neg t]; exact le_of_not_lt t
    · exact least_all l _ hp hl c m
theorem greatest_all : ∀ (l : List Corner) (v : Q), 0 < v.d → (∀ c ∈ l, 0 < c.v.d) → ∀ c ∈ l, Le c.v (greatest v l)
  | [], _, _, _ => fun c m => by cases m
  | a :: l, v, hv, h => by
    intro c m
    show Le c.v (greatest (if v.lt a.v = true then a.v else v) l)
    have ha := h a (by simp)
    have hl := fun c m => h c (List.mem_cons_of_mem a m)
    have hp : 0 < (if v.lt a.v = true then a.v else v).d := by split <;> assumption
    rcases List.mem_cons.mp m with m | m
    · subst m
      have k := le_greatest l (if v.lt c.v = true then c.v else v) hp hl
      refine Le.trans ?_ k.2 ha hp k.1
      by_cases t : v.lt c.v = true
      · rw [if_pos t]; exact Int.le_refl _
      · rw [if_neg t]; exact le_of_not_lt t
    · exact greatest_all l _ hp hl c m
/-! ### whether a value may be had -/
def had (t ol og a b : Bool) : Bool := t && ((a && b) || ((a && ol) || (b && og)))
def mbh (xl xg yl yg a0 a1 a2 a3 : Bool) : Bool := (a0 && (a1 && (a2 && a3))) || ((had xl yl yg a0 a1 || had xg yl yg a2 a3) || (had yl xl xg a0 a2 || had yg xl xg a1 a3))
def atC (F : Fun) (x y v : Q) : Bool := decide (value F x y = v)
theorem taken_eq (F : Fun) (r s : Range) (v : Q) : taken (corners F r s) v = mbh r.loIn r.hiIn s.loIn s.hiIn (atC F r.lo s.lo v) (atC F r.lo s.hi v) (atC F r.hi s.lo v) (atC F r.hi s.hi v) := by
  have e : ∀ x y : Q, (value F x y == v) = atC F x y v := fun x y => rfl
  unfold taken corners
  simp only [List.getElem?_cons_zero, List.getElem?_cons_succ, List.any_cons, List.any_nil, e]
  generalize atC F r.lo s.lo v = a0
  generalize atC F r.lo s.hi v = a1
  generalize atC F r.hi s.lo v = a2
  generalize atC F r.hi s.hi v = a3
  generalize r.loIn = xl
  generalize r.hiIn = xg
  generalize s.loIn = yl
  generalize s.hiIn = yg
  revert a0 a1 a2 a3 xl xg yl yg
  decide
theorem image_some {F : Fun} {r s : Range} (sf : safe F r s = true) : image F r s = some ⟨least (value F r.lo s.lo) (corners F r s), taken (corners F r s) (least (value F r.lo s.lo) (corners F r s)), greatest (value F r.lo s.lo) (corners F r s), taken (corners F r s) (greatest (value F r.lo s.lo) (corners F r s))⟩ := by
  unfold image
  rw [if_neg (by rw [sf]; simp)]
theorem image_none {F : Fun} {r s : Range} (sf : safe F r s = false) : image F r s = none := by
  unfold image
  rw [if_pos sf]
theorem image_one {F : Fun} {r s t : Range} (e : image F r s = some t) (c : t.lo = t.hi) : t.loIn = true ∧ t.hiIn = true := by
  cases sf : safe F r s with
  | false => rw [image_none sf] at e; cases e
  | true =>
    rw [image_some sf] at e
    have e := Option.some.inj e
    subst e
    have c : least (value F r.lo s.lo) (corners F r s) = greatest (value F r.lo s.lo) (corners F r s) := c
    obtain ⟨n1, n2, n3, n4⟩ := safe_ne sf
    have red : ∀ k ∈ corners F r s, Red k.v := by
      intro k m
      unfold corners at m
      simp only [List.mem_cons, List.not_mem_nil, or_false] at m
      rcases m with rfl | rfl | rfl | rfl
      · exact (of_spec _ _ n1).1
      · exact (of_spec _ _ n2).1
      · exact (of_spec _ _ n3).1
      · exact (of_spec _ _ n4).1
    have v0 : Red (value F r.lo s.lo) := (of_spec _ _ n1).1
    have lr : Red (least (value F r.lo s.lo) (corners F r s)) := by
      rcases least_mem (corners F r s) (value F r.lo s.lo) with h | ⟨k, m, h⟩
      · rw [h]; exact v0
      · rw [h]; exact red k m
    have all : ∀ k ∈ corners F r s, k.v = least (value F r.lo s.lo) (corners F r s) := by
      intro k m
      have a := least_all (corners F r s) (value F r.lo s.lo) v0.pos (fun k m => (red k m).pos) k m
      have b := greatest_all (corners F r s) (value F r.lo s.lo) v0.pos (fun k m => (red k m).pos) k m
      rw [← c] at b
      exact red_unique (red k m) lr (Int.le_antisymm b a)
    have key : taken (corners F r s) (least (value F r.lo s.lo) (corners F r s)) = true := by
      rw [taken_eq]
      have h1 : atC F r.lo s.lo (least (value F r.lo s.lo) (corners F r s)) = true := decide_eq_true (all ⟨value F r.lo s.lo, r.loIn, s.loIn⟩ (by simp [corners]))
      have h2 : atC F r.lo s.hi (least (value F r.lo s.lo) (corners F r s)) = true := decide_eq_true (all ⟨value F r.lo s.hi, r.loIn, s.hiIn⟩ (by simp [corners]))
      have h3 : atC F r.hi s.lo (least (value F r.lo s.lo) (corners F r s)) = true := decide_eq_true (all ⟨value F r.hi s.lo, r.hiIn, s.loIn⟩ (by simp [corners]))
      have h4 : atC F r.hi s.hi (least (value F r.lo s.lo) (corners F r s)) = true := decide_eq_true (all ⟨value F r.hi s.hi, r.hiIn, s.hiIn⟩ (by simp [corners]))
      rw [h1, h2, h3, h4]
      rfl
    exact ⟨key, by show taken _ _ = true; rw [← c]; exact key⟩
theorem image_rep {F : Fun} {r s t : Range} {b : Nat} {n d m e : Int} {c1 c2 : Corner} (hF : FOk F) (hr : Rg b r) (hs : Rg b s) (im : image F r s = some t) (k1 : Cor c1 n d) (e1 : c1.v = t.lo) (k2 : Cor c2 m e) (e2 : c2.v = t.hi) : Rep ⟨n, d, t.loIn, m, e, t.hiIn⟩ t := by
  have rg := image_rg hF hr hs im
  exact ⟨rg.ok, e1 ▸ k1.is_, e2 ▸ k2.is_, k1.pos, k2.pos, rfl, rfl, image_one im, k1.sn, k1.sd, k2.sn, k2.sd⟩
/-- the range of a stream: the ends, by whether there's an end, and how many terms there are -/
theorem range_one {k : Known} {r : Range} (ht : Tail k.terms) (hc : k.ended = true → CanE k.terms) (e : k.range = some r) : r.lo = r.hi → r.loIn = true ∧ r.hiIn = true := by
  intro c
  have ne : k.terms ≠ [] := fun z => by
    unfold Known.range at e
    rw [z] at e
    cases e
  obtain ⟨p, ep, rp⟩ := ofTerms_ok k.terms ne ht
  obtain ⟨q, eq, rq⟩ := ofTerms_ok (more k.terms) (more_ne ne) (more_tail ht)
  rw [range_some ep eq] at e
  have e := Option.some.inj e
  have m := more_lt ne ht ep eq
  by_cases en : k.ended = true
  · rw [if_pos en] at e
    rw [← e]
    exact ⟨rfl, rfl⟩
  · rw [if_neg en] at e
    by_cases l : p.lt q = true
    · rw [if_pos l] at e
      rw [← e] at c
      exact absurd c m.2
    · rw [if_neg l] at e
      rw [← e] at c
      exact absurd c.symm m.2
end TQ
namespace TQ
open Re04
theorem suffix_le : ∀ (pre l : List Int) (x y : Q), pre ≠ [] → l ≠ [] → Tail (pre ++ l) → ofTerms l = some y → ofTerms (pre ++ l) = some x → Red y ∧ 0 < y.n ∧ y.n ≤ x.d
  | [], _, _, _, h, _, _, _, _ => absurd rfl h
  | [a], l, x, y, _, hl, ht, ey, ex => by
    obtain ⟨u, eu, ru, pu⟩ := ofTerms_pos l hl ht.tl
    have e : u = y := Option.some.inj (eu.symm.trans ey)
    subst e
    have qu := ru.pos
    have e := Option.some.inj ((ofTerms_cons (a := a) eu ru (by omega)).symm.trans ex)
    subst e
    exact ⟨ru, by omega, by show u.n ≤ (u.n.toNat : Int); omega⟩
  | a :: b :: pre, l, x, y, _, hl, ht, ey, ex => by
    have tl : ∀ t ∈ (b :: pre) ++ l, 1 ≤ t := ht.tl
    obtain ⟨u, eu, ru, pu⟩ := ofTerms_pos ((b :: pre) ++ l) (by simp) tl
    have ih := suffix_le (b :: pre) l u y (by simp) hl (fun t m => tl t (List.mem_of_mem_tail m)) ey eu
    have qu := ru.pos
    have e := Option.some.inj ((ofTerms_cons (a := a) eu ru (by omega)).symm.trans ex)
    subst e
    exact ⟨ih.1, ih.2.1, by have := ih.2.2; show y.n ≤ (u.n.toNat : Int); omega⟩
/-- what a range's sure terms make, or nothing -/
def sureOf : Option Range → Known
  | none => ⟨[], false⟩
  | some r => r.sure
def RepO : Option Sn → Option Range → Prop
  | none, none => True
  | some S, some r => Rep S r ∧ r.sure.terms.length ≤ 1000000
  | _, _ => False
end TQ

/-! A list of calls, call by call; what is due, call by call. Core Lean alone. -/
namespace TQ
open Re04
/-- the call x stands at the list's head, t is the rest -/
inductive CallIs : List Int → Call → List Int → Prop
  | begin (t : List Int) : CallIs (0 :: t) .begin t
  | stream (t : List Int) : CallIs (1 :: t) .stream t
  | feed (i a : Int) (t : List Int) (h : 0 ≤ i) : CallIs (2 :: i :: a :: t) (.feed i.toNat a) t
  | close (i : Int) (t : List Int) (h : 0 ≤ i) : CallIs (3 :: i :: t) (.close i.toNat) t
  | node (x y : Int) (row t : List Int) (hx : 0 ≤ x) (hy : 0 ≤ y) (hl : row.length ≤ 10) : CallIs (4 :: x :: y :: (row.length : Int) :: (row ++ t)) (.node x.toNat y.toNat row) t
  | sure (i : Int) (t : List Int) (h : 0 ≤ i) : CallIs (5 :: i :: t) (.sure i.toNat) t
  | range (i : Int) (t : List Int) (h : 0 ≤ i) : CallIs (6 :: i :: t) (.range i.toNat) t
  | digits (i p : Int) (t : List Int) (h : 0 ≤ i) (hp : 0 ≤ p) : CallIs (7 :: i :: p :: t) (.digits i.toNat p.toNat) t
  | may (i n d : Int) (t : List Int) (h : 0 ≤ i) (hd : 0 ≤ d) (hn : n.natAbs ≤ 1000000) (hd' : d ≤ 1000000) : CallIs (8 :: i :: n :: d :: t) (.may i.toNat n d.toNat) t
inductive Calls : List Int → List Call → Prop
  | nil : Calls [] []
  | cons {l t : List Int} {x : Call} {xs : List Call} (h : CallIs l x t) (r : Calls t xs) : Calls l (x :: xs)
/-- the answers, one behind another -/
def run : State → List Call → List Int
  | _, [] => []
  | s, x :: xs => (((Re04.step s x).2.l.length + 1 : Nat) : Int) :: (Re04.step s x).2.v :: (Re04.step s x).2.l ++ run (Re04.step s x).1 xs
theorem drop_cons {l : List Int} {n : Nat} (h : ¬ l.length < n + 1) : ∃ a t, l = a :: t ∧ ¬ t.length < n := by
  cases l with
  | nil => simp at h
  | cons a t => exact ⟨a, t, rfl, by simp at h ⊢; omega⟩
theorem callOf_some {l : List Int} (h : Re04Neutral.asked1 l = true) : ∃ x, Re04Neutral.callOf l = some x ∧ Re04Neutral.callIn l = some x := by
  unfold Re04Neutral.asked1 at h
  cases e : Re04Neutral.callOf l with
  | none => rw [e] at h; cases h
  | some x =>
    refine ⟨x, rfl, ?_⟩
    unfold Re04Neutral.callOf at e
    split at e
    · cases e
    · exact e
theorem call_step {l t : List Int} {c : List (List Int)} (h : PyFlat.call PyRe04.shape l = some (c, t)) (ask : Re04Neutral.asked1 ((PyRe04.whole c).headD []) = true) :
    ∃ x, CallIs l x t ∧ ∀ s, Re04Neutral.step s ((PyRe04.whole c).headD []) = ((Re04.step s x).1, (Re04.step s x).2.v :: (Re04.step s x).2.l) := by
  obtain ⟨x, e1, e2⟩ := callOf_some ask
  have st : ∀ s, Re04Neutral.step s ((PyRe04.whole c).headD []) = ((Re04.step s x).1, (Re04.step s x).2.v :: (Re04.step s x).2.l) := fun s => by
    unfold Re04Neutral.step
    rw [e1]
    rfl
  refine ⟨x, ?_, st⟩
  clear st e1 ask
  cases l with
  | nil => simp [PyFlat.call] at h
  | cons p r =>
    unfold PyFlat.call at h
    unfold PyRe04.shape at h
    by_cases c0 : p = 0
    · subst c0
      simp [PyFlat.rows] at h
      obtain ⟨rfl, rfl⟩ := h
      simp [PyRe04.whole, Re04Neutral.callIn] at e2
      subst e2
      exact .begin _
    by_cases c1 : p = 1
    · subst c1
      simp [PyFlat.rows] at h
      obtain ⟨rfl, rfl⟩ := h
      simp [PyRe04.whole, Re04Neutral.callIn] at e2
      subst e2
      exact .stream _
    by_cases c2 : p = 2
    · subst c2
      simp [PyFlat.rows] at h
      obtain ⟨hl, rfl, rfl⟩ := h
      obtain ⟨i, r, rfl, hl'⟩ := drop_cons (l := r) (n := 1) (by omega)
      obtain ⟨a, r, rfl, _⟩ := drop_cons (l := r) (n := 0) (by omega)
      simp [PyRe04.whole, Re04Neutral.callIn] at e2
      obtain ⟨⟨h0, _⟩, rfl⟩ := e2
      exact .feed _ _ _ h0
    by_cases c3 : p = 3
    · subst c3
      simp [PyFlat.rows] at h
      obtain ⟨hl, rfl, rfl⟩ := h
      obtain ⟨i, r, rfl, hl⟩ := drop_cons (l := r) (n := 0) (by simp; exact hl)
      simp [PyRe04.whole, Re04Neutral.callIn] at e2
      obtain ⟨h0, rfl⟩ := e2
      exact .close _ _ h0
    by_cases c4 : p = 4
    · subst c4
      simp only [show ¬ (4 : Int) = 0 by omega, show ¬ (4 : Int) = 1 by omega, show ¬ (4 : Int) = 2 by omega, show ¬ (4 : Int) = 3 by omega, if_false, if_true] at h
      by_cases hl : r.length < 2
      · rw [if_pos hl] at h; cases h
      · rw [if_neg hl] at h
        obtain ⟨i, r, rfl, hl'⟩ := drop_cons (l := r) (n := 1) hl
        obtain ⟨j, r, rfl, hl''⟩ := drop_cons (l := r) (n := 0) hl'
        simp only [List.drop_succ_cons, List.drop_zero] at h
        cases r with
        | nil => simp [PyFlat.rows, PyFlat.row] at h
        | cons m r =>
          unfold PyFlat.rows PyFlat.row at h
          simp only at h
          by_cases hm : 0 ≤ m ∧ m.toNat ≤ r.length
          · rw [if_pos hm] at h
            simp [PyFlat.rows] at h
            obtain ⟨rfl, rfl⟩ := h
            simp [PyRe04.whole, Re04Neutral.callIn] at e2
            obtain ⟨⟨h0, h1, h2⟩, rfl⟩ := e2
            have hmm : m = ((r.take m.toNat).length : Int) := by
              rw [List.length_take]; omega
            have := CallIs.node i j (r.take m.toNat) (r.drop m.toNat) h0 h1 (by rw [List.length_take]; omega)
            rw [← hmm, List.take_append_drop] at this
            exact this
          · rw [if_neg hm] at h; simp at h
    by_cases c5 : p = 5
    · subst c5
      simp [PyFlat.rows] at h
      obtain ⟨hl, rfl, rfl⟩ := h
      obtain ⟨i, r, rfl, hl⟩ := drop_cons (l := r) (n := 0) (by simp; exact hl)
      simp [PyRe04.whole, Re04Neutral.callIn] at e2
      obtain ⟨h0, rfl⟩ := e2
      exact .sure _ _ h0
    by_cases c6 : p = 6
    · subst c6
      simp [PyFlat.rows] at h
      obtain ⟨hl, rfl, rfl⟩ := h
      obtain ⟨i, r, rfl, hl⟩ := drop_cons (l := r) (n := 0) (by simp; exact hl)
      simp [PyRe04.whole, Re04Neutral.callIn] at e2
      obtain ⟨h0, rfl⟩ := e2
      exact .range _ _ h0
    by_cases c7 : p = 7
    · subst c7
      simp [PyFlat.rows] at h
      obtain ⟨hl, rfl, rfl⟩ := h
      obtain ⟨i, r, rfl, hl'⟩ := drop_cons (l := r) (n := 1) (by omega)
      obtain ⟨a, r, rfl, _⟩ := drop_cons (l := r) (n := 0) (by omega)
      simp [PyRe04.whole, Re04Neutral.callIn] at e2
      obtain ⟨⟨h0, h1⟩, rfl⟩ := e2
      exact .digits _ _ _ h0 h1
    by_cases c8 : p = 8
    · subst c8
      simp [PyFlat.rows] at h
      obtain ⟨hl, rfl, rfl⟩ := h
      obtain ⟨i, r, rfl, hl'⟩ := drop_cons (l := r) (n := 2) (by omega)
      obtain ⟨n, r, rfl, hl''⟩ := drop_cons (l := r) (n := 1) (by omega)
      obtain ⟨d, r, rfl, _⟩ := drop_cons (l := r) (n := 0) (by omega)
      simp [PyRe04.whole, Re04Neutral.callIn, Re04Neutral.small] at e2
      obtain ⟨⟨h0, h1, h2, h3⟩, rfl⟩ := e2
      exact .may _ _ _ _ h0 h1 (by omega) (by omega)
    simp [c0, c1, c2, c3, c4, c5, c6, c7, c8] at h
theorem calls_run : ∀ (f : Nat) (l : List Int) (raw : List (List (List Int))), PyFlat.calls PyRe04.shape f l = some raw → (raw.all fun c => Re04Neutral.asked1 ((PyRe04.whole c).headD [])) = true →
    ∃ xs, Calls l xs ∧ xs.length = raw.length ∧ ∀ s, PyFlat.told (PyFlat.played (fun s c => Re04Neutral.step s (c.headD [])) s (raw.map PyRe04.whole)) = run s xs
  | f, [], raw, h, _ => by
    have : raw = [] := by
      cases f <;> simp [PyFlat.calls] at h <;> exact h
    subst this
    exact ⟨[], .nil, rfl, fun s => rfl⟩
  | 0, a :: l, raw, h, _ => by simp [PyFlat.calls] at h
  | f + 1, a :: l, raw, h, ask => by
    unfold PyFlat.calls at h
    cases e : PyFlat.call PyRe04.shape (a :: l) with
    | none => rw [e] at h; cases h
    | some ct =>
      obtain ⟨c, t⟩ := ct
      rw [e] at h
      simp only at h
      cases e2 : PyFlat.calls PyRe04.shape f t with
      | none => rw [e2] at h; cases h
      | some cs =>
        rw [e2] at h
        simp only at h
        have h := Option.some.inj h
        subst h
        simp only [List.all_cons, Bool.and_eq_true] at ask
        obtain ⟨x, hx, st⟩ := call_step e ask.1
        obtain ⟨xs, hc, hl, hr⟩ := calls_run f t cs e2 ask.2
        refine ⟨x :: xs, .cons hx hc, by simp [hl], fun s => ?_⟩
        simp only [List.map_cons, PyFlat.played, PyFlat.told, List.flatMap_cons]
        rw [st s]
        have := hr (Re04.step s x).1
        unfold PyFlat.told at this
        simp only [this, run]
        simp
theorem answers_run {l : List Int} (h : PyRe04.answers_asked l = true) : ∃ xs, Calls l xs ∧ PyRe04.answers l = run init xs ∧ xs.length ≤ 60 ∧ (run init xs).length ≤ 10000000 := by
  unfold PyRe04.answers_asked at h
  cases e : PyFlat.calls PyRe04.shape l.length l with
  | none => rw [e] at h; cases h
  | some raw =>
    rw [e] at h
    simp only [Bool.and_eq_true] at h
    obtain ⟨⟨⟨⟨h1, h2⟩, h3⟩, h4⟩, h5⟩ := h
    have ask : (raw.all fun c => Re04Neutral.asked1 ((PyRe04.whole c).headD [])) = true := by
      unfold Re04Neutral.asked at h4
      simp only [Bool.and_eq_true] at h4
      have := h4.1
      rw [List.all_map, List.all_map] at this
      exact this
    obtain ⟨xs, hc, hl, hr⟩ := calls_run _ _ _ e ask
    have ea : PyRe04.answers l = run init xs := by
      unfold PyRe04.answers PyRe04.calls
      rw [e]
      exact hr init
    refine ⟨xs, hc, ea, ?_, ?_⟩
    · rw [hl]; exact of_decide_eq_true h2
    · rw [← ea]; exact of_decide_eq_true h5
end TQ

set_option Elab.async false
set_option maxRecDepth 100000
set_option maxHeartbeats 2000000
/-! Division of whole numbers of any size (the long ones go by a module of Python's own library: the model asks for room, and that nobody looks on). -/
namespace Hb
open PySem PySem.Spec PyProof.Rows L2
open PySem.W (Codec OpenSpec WData Well WellAll ReadsW ReadsAllW)
/-- what a division asks of the place where it stands -/
structure Calm (X : Cx) : Prop where
  seer : X.base.NoSeer
  room : Room 32 X.A
  tree : X.prog.given.tree = none
  stk : X.stack = X.env :: X.outer
  gen : X.env.scope.isGenerator = false
  co : X.env.scope.isCoroutine = false
theorem Calm.pyl {X : Cx} {pins : List (Addr × Obj)} {σ : L2.St} {H : Hp} {s : Shared} (c : Calm X) (I : Inv X pins σ H s) : PylongRoom (model X.prog X.w) X.A s := by
  refine PylongRoom.of I.nolimit ?_ (SeerAt.of (c.seer.keeps I.bk) c.tree (l := X.outer) ?_ c.gen c.co I.ok.blt I.ok.glob)
  · have d := c.room.dp
    show X.A.depth + 100 < recursionLimit
    omega
  · rw [I.ok.frames, c.stk]
/-- i // j, 0 < j, of any size -/
theorem op_fdivB {X : Cx} (c : Calm X) : OpR X (binaryOp .FloorDiv) (rI (fun _ j => 0 < j) fun i j => .int (i / j)) := by
  intro pins s σ H a b v u Q I ra rb h
  obtain ⟨i, j, e1, e2, hc, q⟩ := h
  subst e1
  subst e2
  obtain ⟨t1, z1⟩ := ra
  obtain ⟨t2, z2⟩ := rb
  subst z1
  subst z2
  have hc : 0 < j := hc
  refine floordiv_int (by omega) ?_ (.inr (c.pyl I))
  rw [Int.fdiv_eq_ediv_of_nonneg i (by omega)]
  exact ⟨.int (i / j), H, I.tok _, ⟨_, rfl⟩, q⟩
/-- divmod of whole numbers of any size -/
theorem call_divmodB {X : Cx} (c : Calm X) : CallR X (.builtin "divmod") (fun xs H Q => ∃ i j, xs = [.int i, .int j] ∧ 0 < j ∧ ∀ p, H p = none → Q (.ref p) (upd H p (.tup [.int (i / j), .int (i % j)]))) := by
  intro pins s σ H xs us Q I rel ask
  obtain ⟨i, j, e0, pos, q⟩ := ask
  subst e0
  obtain ⟨u1, u2, e0, ⟨t1, e1⟩, ⟨t2, e2⟩⟩ := vals2 rel
  subst e0
  subst e1
  subst e2
  have f1 : i.fdiv j = i / j := Int.fdiv_eq_ediv_of_nonneg i (Int.le_of_lt pos)
  have f2 : i.fmod j = i % j := Int.fmod_eq_emod_of_nonneg i (Int.le_of_lt pos)
  refine divmod_int (by omega) ?_ (.inr (c.pyl I))
  rw [f1, f2]
  have two : (([.int (i / j), .int (i % j)] : List V)).length ≤ sizeLine := by
    show 2 ≤ sizeLine
    decide
  exact ⟨.ref s.heap.objs.size, upd H s.heap.objs.size (.tup [.int (i / j), .int (i % j)]),
    I.laid (fun _ _ e => Heap.get?_push_of_some _ e) (Nat.le_refl _) ⟨two, [.int (i / j) s.toks, .int (i % j) (s.toks + 1)], .cons ⟨s.toks, rfl⟩ (.cons ⟨s.toks + 1, rfl⟩ .nil), _, Heap.get?_push_size s.heap rfl, rfl, 0, rfl⟩, rfl,
    q s.heap.objs.size (I.hok.fresh (Nat.le_refl s.heap.objs.size))⟩
/-- nobody looks on, and the program brings no tree of its own -/
structure Cm (P : Program) (base : Heap) : Prop where
  seer : base.NoSeer
  tree : P.given.tree = none
theorem calm_of {X : Cx} (c : Cm X.prog X.base) (hr : Room 32 X.A) (hs : X.stack = X.env :: X.outer) (hg : X.env.scope.isGenerator = false) (hc : X.env.scope.isCoroutine = false) : Calm X := ⟨c.seer, hr, c.tree, hs, hg, hc⟩
/-! The end of a row, where besides it's handed on that nobody looks on. -/
section
variable {P : Program} {w : World} {K : PySem.W.Frag} {g b0 : Str → Option Value} {CX : CXT} {k : Nat} {fa : Addr} {fd : FuncData} {ps : List Str} {sp : Sp}
/-- of what the base (all that isn't tracked) bears -/
theorem seer_hid {h : Heap} {H : Hp} (n : h.NoSeer) (t : ∀ b o, h.get? b = some o → (∃ es ep, o.data = .dict es ep) ∨ o.cls = .type "module" → H b = none) : (hidT h H).NoSeer := by
  have k : ∀ {b : Addr} {m : Str → Option Value}, h.Ns b m → (hidT h H).Ns b m := by
    rintro b m ⟨o, es, ep, e, d, r⟩
    exact ⟨o, es, ep, hidT_get e (t b o e (.inl ⟨es, ep, d⟩)), d, r⟩
  obtain ⟨⟨mc, c1, c2⟩, ⟨mm, m1, m2⟩, ⟨mb, i1, i2⟩, ⟨mg, bm, ob, n1, n2, n3, n4, n5⟩⟩ := n
  exact ⟨⟨mc, k c1, c2⟩, ⟨mm, k m1, m2⟩, ⟨mb, k i1, i2⟩, ⟨mg, bm, ob, k n1, n2, hidT_get n3 (t bm ob n3 (.inr n4)), n4, n5⟩⟩
theorem callS {s : Shared} {vals : List Value} {ds : List WData} {R : PySem.W.WRecords} {cl : Str → Option Addr} {d0 : WData} (hK : K.In s.heap) (hG : s.heap.Ns mainGlobals g) (hB : s.heap.Ns builtinsNs b0)
    (hB2 : ∀ x : Str, x ≠ "__name__" → b0 x = bootBuiltins x) (hL : s.heap.NoLimit) (hN : s.heap.NoSeer) (hgs : s.gens = #[]) (hW : WellAll w.params s.heap vals ds) (hp : plWs ds = true) (hw : ∀ d ∈ ds, d.weight ≤ 1048576) (room : Room k callerA)
    (F : ∀ base : Heap, K.In base → base.Ns mainGlobals g → base.NoSeer → FnOk P w K g base CX k fa fd ps sp) (bind : ∀ (s : Shared) (us : List Value), us.length = ps.length → BindsTo s fd ⟨us, []⟩ (ps.zip us)) (len : ds.length = ps.length)
    (kept : ∀ (H : Hp) (xs : List V), OnlyF H → DwAll K H xs ds → sp xs H (fun v H' => Dw K H' v d0) (fun _ _ _ => False)) (noX : ∀ H e s', CX [] H s (fun _ _ _ => False) e s' → False) :
    codeAny (model P w) callerA (.call (.ref fa) ⟨vals, []⟩) (fun r s' => ∃ u as, r = .ok (.ret u) ∧ ReadsW R cl s'.heap u d0 as ∧ OldK s.heap s'.heap ∧ s'.os = s.os ∧ AllBare s'.gens) s := by
  obtain ⟨A, okA, arA⟩ := area_all ds vals hW hp hw
  have only : OnlyF (argH K s.heap A) := argH_only arA
  have held : HOk P w (argH K s.heap A) s.heap := argH_ok arA
  have args := dw_all hK arA ds vals hW hp okA
  have rel := vals_toV okA
  have apart : ∀ b u, argH K s.heap A b = some u → K.lookup b = none := fun b u q => (argH_is arA q).1
  have free : ∀ b o, s.heap.get? b = some o → (∃ es ep, o.data = .dict es ep) ∨ o.cls = .type "module" → argH K s.heap A b = none := by
    intro b o e hd
    cases q : argH K s.heap A b with
    | none => rfl
    | some u =>
      obtain ⟨_, vs, _, _, h3⟩ := argH_is arA q
      have e2 : s.heap.get? b = some { cls := .type "list", data := .seq vs.toArray } ∨ s.heap.get? b = some { cls := .type "tuple", data := .seq vs.toArray } := h3.elim (fun z => .inl z.1) (fun z => .inr z.1)
      rcases e2 with e2 | e2 <;> rw [e] at e2 <;> cases e2 <;> rcases hd with ⟨es, ep, d⟩ | d <;> first | (cases d; done) | (injection d with d; exact absurd d (by decide))
  generalize argH K s.heap A = H at only held args apart free
  have ns : ∀ {b : Addr} {m : Str → Option Value}, s.heap.Ns b m → (hidT s.heap H).Ns b m := by
    rintro b m ⟨o, es, ep, e, d, r⟩
    exact ⟨o, es, ep, hidT_get e (free b o e (.inl ⟨es, ep, d⟩)), d, r⟩
  have inB : K.In (hidT s.heap H) := by
    intro b o e
    refine hidT_get (hK b o e) ?_
    cases q : H b with
    | none => rfl
    | some u =>
      rw [apart b u q] at e
      cases e
  have md : L2.Mod K g (hidT s.heap H) := by
    obtain ⟨mc, l1, l2⟩ := hL
    exact ⟨inB, ns hG, ⟨b0, ns hB, hB2⟩, ⟨mc, ns l1, l2⟩⟩
  have env : Env0 P w K g (hidT s.heap H) callerA [] s H :=
    ⟨rfl, md, fun b o e => of_hidT e, Nat.le_of_eq (hidT_size _ _), trivial, (fun b hb => by cases hb), held, .of_eq hgs⟩
  have lv : vals.length = ps.length := (wellAll_len hW).trans len
  have run := (F _ inB (ns hG) (seer_hid hN free)).run callerA [] s H ⟨vals, []⟩ vals (vals.map toV) _ _ room env (bind s vals lv) rel (kept H _ only args)
  refine codeAny_mono run fun r s' x => ?_
  match r, x with
  | .error e, x => exact (noX H e s' x).elim
  | .ok .next, x => exact False.elim x
  | .ok .brk, x => exact False.elim x
  | .ok .cont, x => exact False.elim x
  | .ok (.ret u), x =>
    obtain ⟨v, H', os, bare, un, held', r', q⟩ := x
    have same : ∀ b o, s.heap.get? b = some o → s'.heap.get? b = some o := by
      intro b o e
      cases q2 : H b with
      | none => exact un.keep b o e q2 (by intro z; cases z) (by simp)
      | some u2 =>
        rcases only b with z | ⟨ob, u3, z⟩
        · rw [q2] at z
          cases z
        · have e1 := (held b _ z).1
          have e2 := (held' b _ (un.frzs b ob _ z)).1
          rw [e] at e1
          cases e1
          exact e2
    obtain ⟨as, reads⟩ := Dw.reads (R := R) (cl := cl) held' (fun b o e => same b o (hK b o e)) d0 v u q r'
    exact ⟨u, as, rfl, reads, OldK.of_keep same, os, bare⟩
end
/-- the def at fa, whatever the base: how it binds, what it promises -/
abbrev Keeps (pr : Program) (w : World) (Kw : PySem.W.Frag) (mg : Str → Option Value) (k : Nat) (fa : Addr) (ps : List Str) (spK : Sp) : Prop := ∃ fd : FuncData, (∀ (s : Shared) (us : List Value), us.length = ps.length → BindsTo s fd ⟨us, []⟩ (ps.zip us)) ∧ ∀ base : Heap, Kw.In base → base.Ns mainGlobals mg → base.NoSeer → FnOk pr w Kw mg base CX0 k fa fd ps spK
/-- what k_headS leaves of a row, from its def's promise: the bases that are met have none that looks on -/
theorem walkB {r : OpenSpec} {k : Nat} {q : Program} {loose : List Str} {XP : (Str → Option Value) → Heap → Prop} {YP : World → Heap → Prop} {d : DefRec} {K : Params → PySem.W.Frag} {ps : List Str} {sp : PySem.W.Frag → Sp}
    (well : r.wellSaid = true) (noDf : d.params.defaults = []) (len : r.args.length = ps.length) (room : Room k callerA) (imp : importsNone q = true) (inY : ∀ (w : World) (h : Heap), YP w h → (K w.params).In h)
    (made : ∀ (w : World) (mg : Str → Option Value) (fa : Addr) (hp : Heap), YP w hp → (K w.params).In hp → hp.Ns mainGlobals mg → mg d.name = some (.ref fa) → Keeps r.prog w (K w.params) mg k fa ps (sp (K w.params)))
    (kept : ∀ (K : PySem.W.Frag) (H : Hp) (xs : List V) (a : Codec.denoteAll r.args), OnlyF H → Codec.withinAll r.args a = true → Codec.app r.args r.asked a = true → DwAll K H xs (Codec.encAll r.args a) →
      sp K xs H (fun v H' => Dw K H' v (r.ret.enc (Codec.app r.args r.f a))) (fun _ _ _ => False)) : PySem.W.WalkOS q loose XP YP r d [] (fun f vs => PySem.call f vs) := by
  intro w s₀ s mg mb G Y fa o pm cd doc dV kV ho hd hcd hD hmg hgs args vals as pre lay rd wl lo
  obtain ⟨a, dec, ask⟩ := PySem.W.os_pre_some pre
  obtain ⟨e3, win⟩ := Codec.encAll_of_decAll r.args args a dec
  subst e3
  obtain ⟨fd, bd, hF⟩ := made w mg fa _ Y (inY w _ Y) G.T.g hmg
  have run := callS (R := []) (cl := classAt s₀.heap) (d0 := r.ret.enc (Codec.app r.args r.f a)) (inY w _ Y) G.T.g G.T.b G.T.builtins G.T.nolimit (G.T.seer imp) hgs wl (pl_encAll _ _) (layable_weight lay) room hF bd
    ((encAll_len _ _).trans len) (fun H xs hO hS => kept (K w.params) H xs a hO win ask hS) (fun H e s' z => z)
  refine PySem.W.enter_call (codeAny_mono run fun r' s' hq => ?_)
  obtain ⟨u, bs, rfl, rd', old, same, bare⟩ := hq
  refine ⟨.inl ⟨u, _, bs, rfl, fun _ => rfl, rd', ?_, fun z => nomatch z⟩, old, same, bare⟩
  exact (OpenSpec.post_iff well win _ _).mpr rfl
end Hb

set_option Elab.async false
set_option maxRecDepth 100000
set_option maxHeartbeats 2000000
/-! A def, a method, a class of the program by one fact each: where it stands, how arguments bind, what it promises. -/
namespace Hb
open PySem PySem.Spec PyProof.Rows L2
section
variable {P : Program} {w : World} {K : PySem.W.Frag} {mg : Str → Option Value} {base : Heap}
/-- the def of that name keeps its promise -/
def Has (P : Program) (w : World) (K : PySem.W.Frag) (mg : Str → Option Value) (base : Heap) (x : Str) (k : Nat) (ps : List Str) (sp : Sp) : Prop :=
  ∃ f fd, mg x = some (.ref f) ∧ PySem.W.keepIn K (.ref f) = true ∧ Binds K fd ps [] ∧ FnOk P w K mg base CX0 k f fd ps sp
/-- the method of that name of the class at C keeps its promise -/
def HasM (P : Program) (w : World) (K : PySem.W.Frag) (mg : Str → Option Value) (base : Heap) (C : Addr) (m : Str) (k : Nat) (ps : List Str) (sp : Sp) : Prop :=
  Cls K C ∧ ∃ f fd, Meth K C m f ∧ Binds K fd ps [] ∧ FnOk P w K mg base CX0 k f fd ps sp
/-- the class of that name stands at C, and its __init__ keeps its promise -/
def HasC (P : Program) (w : World) (K : PySem.W.Frag) (mg : Str → Option Value) (base : Heap) (x : Str) (C : Addr) (k : Nat) (ps : List Str) (sp : Sp) : Prop :=
  ∃ f fd, Mk K C f ∧ mg x = some (.ref C) ∧ Binds K fd ps [] ∧ FnOk P w K mg base CX0 k f fd ps sp
end
section
variable {X : Cx} {k : Nat} {C : Addr} {ps : List Str} {sp : Sp} {x m : Str} {pos p apos : Pos} {e o : Expr} {es : List Expr} {ta : TE} {t : TA}
/-- the first argument is plain; no star among the rest -/
abbrev Plain1 (X : Cx) (e : Expr) (es : List Expr) : Prop := starEach (e :: es) X.env = (false, eval e X.env) :: starEach es X.env
abbrev Plain2 (X : Cx) (pos : Pos) (es : List Expr) : Prop := (backTo pos (starEach es X.env)).any (·.1) = false
/-- a call of a method is that: the object, its method, the call -/
abbrev ByMeth (X : Cx) (o : Expr) (m : Str) (apos pos : Pos) (es : List Expr) (pl : Sem Bool) : Prop := eval (.Call (.Attribute o m apos) es [] pos) X.env = (do let v ← eval o X.env; standAt apos.atName; let (f, first) ← holding [v] (getMethod v m pl); callWith pos f first (backTo pos (starEach es X.env)) (backToKw pos (keywordEach [] X.env)))
theorem pe_own (D : Has X.prog X.w X.K X.mg X.base x k ps sp) (hr : Room k X.A) (hg : Gl X x) (ha : PA X (e :: es) t) (hdb : (x == ("__debug__" : Str)) = false := by decide)
    (he : Plain1 X e es := by rfl) (hpl : Plain2 X pos es := by rfl) :
    PE X (.Call (.Name x p) (e :: es) [] pos) (tCall sp [] E0 t) := by
  obtain ⟨f, fd, g, kp, b, F⟩ := D
  exact pe_call F hr hg g kp b .nil pass0 ha hdb he hpl
theorem pe_own0 (D : Has X.prog X.w X.K X.mg X.base x k ps sp) (hr : Room k X.A) (hg : Gl X x) (hdb : (x == ("__debug__" : Str)) = false := by decide) : PE X (.Call (.Name x p) [] [] pos) (tCall sp [] E0 tNil) := by
  obtain ⟨f, fd, g, kp, b, F⟩ := D
  exact pe_call0 F hr hg g kp b .nil pass0 hdb
theorem pe_ownM {pl : Sem Bool} (he : PE X o ta) (D : HasM X.prog X.w X.K X.mg X.base C m k ps sp) (hr : Room k X.A) (ha : PA X (e :: es) t)
    (hst : Plain1 X e es := by rfl) (hpl : Plain2 X pos es := by rfl)
    (ht : ByMeth X o m apos pos (e :: es) pl := by rfl) : PE X (.Call (.Attribute o m apos) (e :: es) [] pos) (tMeth C m sp [] E0 ta t) := by
  obtain ⟨c, f, fd, M, b, F⟩ := D
  exact pe_meth (pl := pl) he c M F hr b .nil pass0 ha hst hpl ht
theorem pe_ownM0 {pl : Sem Bool} (he : PE X o ta) (D : HasM X.prog X.w X.K X.mg X.base C m k ps sp) (hr : Room k X.A)
    (ht : ByMeth X o m apos pos [] pl := by rfl) : PE X (.Call (.Attribute o m apos) [] [] pos) (tMeth C m sp [] E0 ta tNil) := by
  obtain ⟨c, f, fd, M, b, F⟩ := D
  exact pe_meth0 (pl := pl) he c M F hr b .nil pass0 ht
theorem pe_ownC (D : HasC X.prog X.w X.K X.mg X.base x C k ps sp) (hr : Room (k + 1) X.A) (hg : Gl X x) (ha : PA X (e :: es) t) (hdb : (x == ("__debug__" : Str)) = false := by decide)
    (he : Plain1 X e es := by rfl) (hpl : Plain2 X pos es := by rfl) :
    PE X (.Call (.Name x p) (e :: es) [] pos) (tMake C sp [] E0 t) := by
  obtain ⟨f, fd, M, g, b, F⟩ := D
  exact pe_make M F hr hg g b .nil pass0 ha hdb he hpl
theorem pe_ownC0 (D : HasC X.prog X.w X.K X.mg X.base x C k ps sp) (hr : Room (k + 1) X.A) (hg : Gl X x) (hdb : (x == ("__debug__" : Str)) = false := by decide) : PE X (.Call (.Name x p) [] [] pos) (tMake C sp [] E0 tNil) := by
  obtain ⟨f, fd, M, g, b, F⟩ := D
  exact pe_make0 M F hr hg g b .nil pass0 hdb
/-- a constant of the module: a whole number -/
def Cn (mg : Str → Option Value) (x : Str) (n : Int) : Prop := ∃ t, mg x = some (.int n t)
theorem pe_cn {n : Int} (h : Cn X.mg x n) (hg : Gl X x) (hd : (x == ("__debug__" : Str)) = false := by decide) : PE X (.Name x pos) (tC (.int n)) := by
  obtain ⟨t, h⟩ := h
  exact pe_glob hg h ⟨t, rfl⟩ hd
end
/-! the same with the written part named, for what stands within a comprehension -/
section
variable {X : Cx} {K : PySem.W.Frag} {e : Expr} {f : Str} {ta : TE} {pos : Pos}
theorem pe_fldK (hK : X.K = K) (he : PE X e ta) (hb : attributeBase e f X.env (eval e X.env) = eval e X.env) : PE X (.Attribute e f pos) (tFld K ta f) := hK ▸ pe_fld he hb
theorem sl_tupK (hK : X.K = K) : SlR X (rSlT K) := hK ▸ sl_tup
theorem ix_listK (hK : X.K = K) : IxR X (rIxL K) := hK ▸ ix_list
end
theorem decI (a b : Int) : decide (V.int a = V.int b) = decide (a = b) := decide_eq_decide.mpr ⟨fun h => V.int.inj h, fun h => congrArg V.int h⟩
/-- what stands at b in H and isn't of F stands there in H' -/
def Kept (F : Addr → Prop) (H H' : Hp) : Prop := ∀ b o, H b = some o → ¬ F b → H' b = some o
theorem Kept.refl (F : Addr → Prop) (H : Hp) : Kept F H H := fun _ _ h _ => h
theorem Kept.trans {F : Addr → Prop} {H H1 H2 : Hp} (a : Kept F H H1) (b : Kept F H1 H2) : Kept F H H2 := fun c o h n => b c o (a c o h n) n
theorem same_kept {F : Addr → Prop} {H H' : Hp} (s : Same H H') : Kept F H H' := fun b o h _ => s b o h
theorem same_upd {H : Hp} {p : Addr} {o : HO} (h : H p = none) : Same H (upd H p o) := fun b u e => by
  rw [upd_ne (ne_of_none e h)]
  exact e
theorem lk_here {x : Str} {u : V} {rest : List (Str × V)} : List.lookup x ((x, u) :: rest) = some u := by
  simp only [List.lookup, show (x == x) = true from beq_self_eq_true x]
theorem lk_past {x y : Str} {u : V} {rest : List (Str × V)} (ne : (x == y) = false) : List.lookup x ((y, u) :: rest) = List.lookup x rest := by
  simp only [List.lookup, ne]
theorem put_here {x : Str} {u old : V} {rest : List (Str × V)} : putF x u ((x, old) :: rest) = (x, u) :: rest := if_pos rfl
theorem put_past {x y : Str} {u old : V} {rest : List (Str × V)} (ne : ¬ y = x) : putF x u ((y, old) :: rest) = (y, old) :: putF x u rest := if_neg ne
end Hb

set_option Elab.async false
set_option maxRecDepth 100000
set_option maxHeartbeats 2000000
namespace Sv
open PySem PySem.Spec PyProof.Rows L2 Hb
open PySem.W (Codec)
open Re04 (Item Known Fun.mk)
/-! the text by places -/
def top (i : Nat) : Stmt := PySem.Challenge.pw_surelytold_s01_answers.main.body.getD i (.Pass ⟨0, 0, 0, 0⟩)
abbrev s_End_init : Stmt := inClass (top 1) 0
abbrev s_Span_init : Stmt := inClass (top 2) 0
abbrev s_compared : Stmt := top 3
abbrev s_is_alone : Stmt := top 4
abbrev s_whole_part_of_least : Stmt := top 5
abbrev s_whole_part_of_greatest : Stmt := top 6
abbrev s_shared_whole_part : Stmt := top 7
abbrev s_lies_within : Stmt := top 8
abbrev s_turned : Stmt := top 9
abbrev s_terms_of_fraction : Stmt := top 10
abbrev s_shared_terms : Stmt := top 11
abbrev s_greatest_divisor : Stmt := top 12
abbrev s_told_end : Stmt := top 13
abbrev s_Stream_init : Stmt := inClass (top 15) 0
abbrev s_can_end : Stmt := top 16
abbrev s_end_behind : Stmt := top 17
abbrev s_stream_span : Stmt := top 18
abbrev s_sure_stream : Stmt := top 19
abbrev s_Node_init : Stmt := inClass (top 21) 0
abbrev s_corner_pairs : Stmt := top 22
abbrev s_part_value : Stmt := top 23
abbrev s_corner_values : Stmt := top 24
abbrev s_had_along : Stmt := top 25
abbrev s_may_be_had : Stmt := top 26
abbrev s_node_end : Stmt := top 27
abbrev s_node_span : Stmt := top 28
abbrev s_entry_span : Stmt := top 29
abbrev s_item_span : Stmt := top 30
abbrev s_in_bounds : Stmt := top 43
abbrev s_can_follow : Stmt := top 44
abbrev s_are_factors : Stmt := top 45
abbrev s_ten_times : Stmt := top 46
abbrev s_House_init : Stmt := inClass (top 47) 0
abbrev s_House_has_item : Stmt := inClass (top 47) 1
abbrev s_House_is_full : Stmt := inClass (top 47) 2
abbrev s_House_find_stream : Stmt := inClass (top 47) 3
abbrev s_House_put : Stmt := inClass (top 47) 4
abbrev s_House_begin : Stmt := inClass (top 47) 5
abbrev s_House_stream : Stmt := inClass (top 47) 6
abbrev s_House_feed : Stmt := inClass (top 47) 7
abbrev s_House_close : Stmt := inClass (top 47) 8
abbrev s_House_node : Stmt := inClass (top 47) 9
abbrev s_House_sure : Stmt := inClass (top 47) 10
abbrev s_House_ends : Stmt := inClass (top 47) 11
abbrev s_House_digits : Stmt := inClass (top 47) 12
abbrev s_House_may : Stmt := inClass (top 47) 13
abbrev s_call_length : Stmt := top 58
abbrev s_answer : Stmt := top 59
abbrev s_answers : Stmt := top 60
/-- what the top has written: constants, names of Python's own that stay, classes -/
structure Txt (K : PySem.W.Frag) (mg : Str → Option Value) (CE CP CS CN CH : Addr) : Prop where
  c_BAD_NUMBER : Cn mg "BAD_NUMBER" (-1)
  c_NO_ITEM : Cn mg "NO_ITEM" (-2)
  c_NO_END : Cn mg "NO_END" (-3)
  c_NO_MORE : Cn mg "NO_MORE" (-4)
  c_FULL : Cn mg "FULL" (-5)
  c_NOT_KNOWN : Cn mg "NOT_KNOWN" (-7)
  c_MOST_ITEMS : Cn mg "MOST_ITEMS" 8
  c_MOST_TERMS : Cn mg "MOST_TERMS" 30
  c_MOST_DIGITS : Cn mg "MOST_DIGITS" 30
  c_FACTORS : Cn mg "FACTORS" 8
  c_BOUND : Cn mg "BOUND" 1000
  c_BEGIN : Cn mg "BEGIN" 0
  c_STREAM : Cn mg "STREAM" 1
  c_FEED : Cn mg "FEED" 2
  c_CLOSE : Cn mg "CLOSE" 3
  c_NODE : Cn mg "NODE" 4
  c_SURE : Cn mg "SURE" 5
  c_RANGE : Cn mg "RANGE" 6
  c_DIGITS : Cn mg "DIGITS" 7
  t_LENGTHS : ∃ tl, mg "LENGTHS" = some (.ref tl) ∧ ∀ H, SqT K H tl (([1, 1, 3, 2, 4, 2, 2, 3, 4] : List Int).map V.int)
  n_len : mg "len" = none
  n_isinstance : mg "isinstance" = none
  n_all : mg "all" = none
  n_tuple : mg "tuple" = none
  n_abs : mg "abs" = none
  n_divmod : mg "divmod" = none
  n_range : mg "range" = none
  n_reversed : mg "reversed" = none
  g_Stream : mg "Stream" = some (.ref CS)
  g_Node : mg "Node" = some (.ref CN)
  clE : Cls K CE
  clP : Cls K CP
  clS : Cls K CS
  clN : Cls K CN
  clH : Cls K CH
  eAbove : NoAttr K CE "above"
  eBelow : NoAttr K CE "below"
  eTaken : NoAttr K CE "taken"
  pLeast : NoAttr K CP "least"
  pGreatest : NoAttr K CP "greatest"
  sTerms : NoAttr K CS "terms"
  sEnded : NoAttr K CS "ended"
  nX : NoAttr K CN "x"
  nY : NoAttr K CN "y"
  nF : NoAttr K CN "factors"
  hE : NoAttr K CH "entries"
  tyS : ∀ (H : Hp) (a dx : Addr) (fs : List (Str × V)), H a = some (.ins CS dx fs) → TyX K H (.ref a) (.ref CS)
  tyN : ∀ (H : Hp) (a dx : Addr) (fs : List (Str × V)), H a = some (.ins CN dx fs) → TyX K H (.ref a) (.ref CN)
  isSS : PySem.W.kitOne K (.ref CS) (.ref CS) = some true
  isNS : PySem.W.kitOne K (.ref CN) (.ref CS) = some false
  isSN : PySem.W.kitOne K (.ref CS) (.ref CN) = some false
  isNN : PySem.W.kitOne K (.ref CN) (.ref CN) = some true
section
variable {P : Program} {w : World} {K : PySem.W.Frag} {mg : Str → Option Value} {base : Heap} {CE CP CS CN CH : Addr}
/-! ### numbers and terms -/
def inB (n : Int) : Bool := decide (n.natAbs ≤ 1000)
def spInB : Sp := fun vs H Q _ => ∃ n : Int, vs = [.int n] ∧ Q (.bl (inB n)) H
theorem sc_in_bounds : FnScope ["number"] ["number"] (defScope s_in_bounds) := ⟨rfl, rfl, rfl, by decide +kernel, rfl, by decide +kernel, by decide +kernel⟩
theorem ok_inB {f : Addr} {fd : FuncData} (F : Fun K "in_bounds" "in_bounds" s_in_bounds f fd) (T : Txt K mg CE CP CS CN CH) : FnOk P w K mg base CX0 1 f fd ["number"] spInB := by
  refine F.ok sc_in_bounds (fun vs H Q E h => ?_) (fun cdv A outer s H vs Q E hr h => ?_)
  · obtain ⟨n, rfl, _⟩ := h
    rfl
  · obtain ⟨n, rfl, k⟩ := h
    refine ⟨_, (pss_one (ps_ret (pe_chain op_le op_le (pe_un un_neg (pe_cn T.c_BOUND rfl)) (pv 0) (pe_cn T.c_BOUND rfl)))), ?_⟩
    refine ⟨1000, rfl, _, rfl, -1000, n, rfl, rfl, _, rfl, ?_⟩
    by_cases c : (-1000 : Int) ≤ n
    · rw [decide_eq_true c]
      refine iteT ⟨n, 1000, rfl, rfl, ?_⟩
      have e : inB n = decide (n ≤ 1000) := decide_eq_decide.mpr (by omega)
      rw [e] at k
      exact k
    · rw [decide_eq_false c]
      have e : inB n = false := decide_eq_false (by omega)
      rw [e] at k
      exact iteF k
def fol (ts : List Int) (n : Int) : Bool := inB n && (decide (ts.length = 0) || decide (1 ≤ n))
def spFol (K : PySem.W.Frag) : Sp := fun vs H Q _ => ∃ (a : Addr) (ts : List Int) (n : Int), vs = [.ref a, .int n] ∧ SqL K H a (ts.map V.int) ∧ Q (.bl (fol ts n)) H
theorem sc_can_follow : FnScope ["terms", "term"] ["terms", "term"] (defScope s_can_follow) := ⟨rfl, rfl, rfl, by decide +kernel, rfl, by decide +kernel, by decide +kernel⟩
theorem ok_fol {f : Addr} {fd : FuncData} (F : Fun K "can_follow" "can_follow" s_can_follow f fd) (T : Txt K mg CE CP CS CN CH) (D_in_bounds : Has P w K mg base "in_bounds" 1 ["number"] spInB) : FnOk P w K mg base CX0 2 f fd ["terms", "term"] (spFol K) := by
  refine F.ok sc_can_follow (fun vs H Q E h => ?_) (fun cdv A outer s H vs Q E hr h => ?_)
  · obtain ⟨a, ts, n, rfl, _⟩ := h
    rfl
  · obtain ⟨a, ts, n, rfl, hS, k⟩ := h
    refine ⟨_, (pss_cons (ps_if (pt_not (pt_val (pe_own D_in_bounds (hr.mono (by decide)) rfl (pa_cons (pv 1) pa_nil))))
    (pss_one (ps_ret pe_bl))
    pss_nil)
   (pss_one (ps_ret (pe_or (pe_cmpR op_eq (pe_callB call_len_seq (by rfl) T.n_len PySem.boot_len (pa_cons (pv 0) pa_nil)) pe_int (nomark _)) (pe_one (pe_cmpR op_ge (pv 1) pe_int (nomark _))))))), ?_⟩
    refine ⟨_, rfl, n, rfl, _, rfl, ?_⟩
    by_cases c : inB n = true
    · rw [c]
      refine iteF ?_
      refine ⟨_, rfl, a, _, rfl, .inl hS, rfl, _, rfl, ?_⟩
      rw [decI, List.length_map]
      refine ite2 (fun h => ?_) (fun h => ?_)
      · have e : fol ts n = true := by
          unfold fol
          have := of_decide_eq_true h
          rw [c, decide_eq_true (show ts.length = 0 by omega)]
          rfl
        rw [e] at k
        exact k
      · have e : fol ts n = decide (1 ≤ n) := by
          unfold fol
          have h : ¬ (ts.length : Int) = 0 := fun z => h (decide_eq_true z)
          rw [c, decide_eq_false (show ¬ ts.length = 0 by omega)]
          rfl
        rw [e] at k
        exact ⟨_, rfl, n, 1, rfl, rfl, k⟩
    · have c : inB n = false := by simpa using c
      have e : fol ts n = false := by
        unfold fol
        rw [c]
        rfl
      rw [e] at k
      rw [c]
      exact iteT k
def canE (ts : List Int) : Bool := !(decide (ts = []) || (decide (2 ≤ ts.length) && decide (ts.getLastD 0 = 1)))
def spCan (K : PySem.W.Frag) : Sp := fun vs H Q _ => ∃ (a : Addr) (ts : List Int), vs = [.ref a] ∧ SqL K H a (ts.map V.int) ∧ Q (.bl (canE ts)) H
theorem sc_can_end : FnScope ["terms"] ["terms"] (defScope s_can_end) := ⟨rfl, rfl, rfl, by decide +kernel, rfl, by decide +kernel, by decide +kernel⟩
theorem ok_can {f : Addr} {fd : FuncData} (F : Fun K "can_end" "can_end" s_can_end f fd) (T : Txt K mg CE CP CS CN CH) : FnOk P w K mg base CX0 1 f fd ["terms"] (spCan K) := by
  refine F.ok sc_can_end (fun vs H Q E h => ?_) (fun cdv A outer s H vs Q E hr h => ?_)
  · obtain ⟨a, ts, rfl, _⟩ := h
    rfl
  · obtain ⟨a, ts, rfl, hS, k⟩ := h
    refine ⟨_, (pss_cons (ps_if (pt_cmpR op_eq (pe_callB call_len_seq (by rfl) T.n_len PySem.boot_len (pa_cons (pv 0) pa_nil)) pe_int (nomark _))
    (pss_one (ps_ret pe_bl))
    pss_nil)
   (pss_one (ps_ret (pe_or (pe_cmpR op_eq (pe_callB call_len_seq (by rfl) T.n_len PySem.boot_len (pa_cons (pv 0) pa_nil)) pe_int (nomark _)) (pe_one (pe_cmpR op_ne (pe_ix ix_list (pv 0) (pe_un un_neg pe_int) (fun _ _ => rfl)) pe_int (nomark _))))))), ?_⟩
    refine ⟨_, rfl, a, _, rfl, .inl hS, rfl, _, rfl, ?_⟩
    rw [decI, List.length_map]
    refine ite2 (fun h => ?_) (fun h => ?_)
    · have h := of_decide_eq_true h
      have e : ts = [] := List.length_eq_zero_iff.mp (by omega)
      subst e
      exact k
    · have h : ¬ (ts.length : Int) = 0 := fun z => h (decide_eq_true z)
      refine ⟨_, rfl, a, _, rfl, .inl hS, rfl, _, rfl, ?_⟩
      rw [decI, List.length_map]
      refine ite2 (fun h1 => ?_) (fun h1 => ?_)
      · have h1 := of_decide_eq_true h1
        match ts, h1 with
        | [b], _ => exact k
      · have h1 : ¬ (ts.length : Int) = 1 := fun z => h1 (decide_eq_true z)
        obtain ⟨ts, b, rfl⟩ : ∃ us b, ts = us ++ [b] := by
          rcases List.eq_nil_or_concat ts with e | ⟨us, b, e⟩
          · rw [e] at h
            exact absurd rfl h
          · exact ⟨us, b, by simpa using e⟩
        refine ⟨_, rfl, 1, rfl, a, _, -1, V.int b, rfl, rfl, hS, ?_, rfl, ?_⟩
        · rw [List.map_append]
          exact atI_last _ _
        · have e : canE (ts ++ [b]) = !decide (b = 1) := by
            unfold canE
            rw [List.length_append, List.length_singleton] at h1
            rw [decide_eq_false (by simp), List.getLastD_concat, decide_eq_true (by simp; omega)]
            rfl
          rw [e, ← decI] at k
          exact k
/-- are_factors(numbers) -/
def areF (ns : List Int) : Bool := decide (ns.length = 8) && ns.all inB
def spAre (K : PySem.W.Frag) : Sp := fun vs H Q _ => ∃ (a : Addr) (ns : List Int), vs = [.ref a] ∧ SqL K H a (ns.map V.int) ∧ ns.length ≤ 100 ∧ ∀ H', Same H H' → Q (.bl (areF ns)) H'
theorem sc_are_factors : FnScope ["numbers", "number"] ["numbers"] (defScope s_are_factors) := ⟨rfl, rfl, rfl, by decide +kernel, rfl, by decide +kernel, by decide +kernel⟩
theorem ok_are {f : Addr} {fd : FuncData} (F : Fun K "are_factors" "are_factors" s_are_factors f fd) (T : Txt K mg CE CP CS CN CH) (D_in_bounds : Has P w K mg base "in_bounds" 1 ["number"] spInB) : FnOk P w K mg base CX0 2 f fd ["numbers"] (spAre K) := by
  refine F.ok sc_are_factors (fun vs H Q E h => ?_) (fun cdv A outer s H vs Q E hr h => ?_)
  · obtain ⟨a, ns, rfl, _⟩ := h
    rfl
  · obtain ⟨a, ns, rfl, hS, hl, k⟩ := h
    refine ⟨_, (pss_one (ps_ret (pe_and (pe_cmpR op_eq (pe_callB call_len_seq (by rfl) T.n_len PySem.boot_len (pa_cons (pv 0) pa_nil)) (pe_cn T.c_FACTORS rfl) (nomark _)) (pe_one (pe_callB (cr_all rfl) (by rfl) T.n_all (by decide +kernel) (pa_cons (pe_lc (own := [("number", 1)]) (g := gName 1) (tt := tYes) rfl sc_are_factors.nd (pi_list (pv 0)) (blkOk_by (N := ["numbers", "number"]) (sc := defScope s_are_factors) (by decide +kernel)) (fun _ _ _ _ _ => pg_name (i := 1) sc_are_factors.nd rfl (Or.inl rfl)) (fun _ _ _ _ _ => pts_nil) (fun _ _ _ _ _ => (pe_own D_in_bounds (hr.mono (by decide)) rfl (pa_cons (pv 1) pa_nil)))) pa_nil)))))), ?_⟩
    refine ⟨_, rfl, a, _, rfl, .inl hS, rfl, _, rfl, ?_⟩
    rw [decI, List.length_map]
    refine ite2 (fun h => ?_) (fun h => ?_)
    · have h := of_decide_eq_true h
      refine ⟨_, rfl, a, rfl, ⟨_, hS⟩, fun D nD => lc_list (K := K) (a := a) (xs := ns.map V.int) (fun i H' => Same H H' ∧ H' D = some (.lst (((ns.take i).map inB).map V.bl)))
        ⟨same_upd nD, upd_same⟩ (fun i H' _ p => p.1.seq hS) ?_ ?_⟩
      · rintro i x H' hi ⟨s1, hD⟩
        rw [List.getElem?_map] at hi
        cases e : ns[i]? with
        | none =>
          rw [e] at hi
          cases hi
        | some z =>
          rw [e] at hi
          have hi : V.int z = x := Option.some.inj hi
          subst hi
          refine ⟨rfl, ?_⟩
          unfold tYes
          refine iteT ?_
          refine ⟨_, rfl, z, rfl, _, hD, ?_, fun b o q => ?_, ?_⟩
          · rw [List.length_map, List.length_map, List.length_take]
            exact Nat.lt_of_le_of_lt (Nat.min_le_right _ _) (Nat.lt_of_le_of_lt hl (by decide))
          · rw [upd_ne (ne_of_none q nD)]
            exact s1 b o q
          · rw [upd_same, List.take_add_one, e]
            simp
      · rintro H' ⟨s1, hD⟩
        rw [List.length_map, List.take_length] at hD
        refine ⟨D, ns.map inB, rfl, .inl (.inl hD), ?_⟩
        have e : (ns.map inB).all id = areF ns := by
          unfold areF
          rw [decide_eq_true (show ns.length = 8 by omega), List.all_map]
          rfl
        rw [e]
        exact k H' s1
    · have h : ¬ (ns.length : Int) = 8 := fun z => h (decide_eq_true z)
      have e : areF ns = false := by
        unfold areF
        rw [decide_eq_false (by omega)]
        rfl
      rw [e] at k
      exact k H (Same.refl H)
end
end Sv

set_option Elab.async false
set_option maxRecDepth 100000
set_option maxHeartbeats 2000000
namespace Sv
open PySem PySem.Spec PyProof.Rows L2 Hb
open PySem.W (Codec)
open Re04 (Item Known)
/-! ### how the items lie in the heap -/
def fS (t : Addr) (e : Bool) : List (Str × V) := [("terms", .ref t), ("ended", .bl e)]
def fN (x y : Int) (t : Addr) : List (Str × V) := [("x", .int x), ("y", .int y), ("factors", .ref t)]
def fH (l : Addr) : List (Str × V) := [("entries", .ref l)]
theorem fS_terms (t : Addr) (e : Bool) : (fS t e).lookup ("terms" : Str) = some (.ref t) := lk_here
theorem fS_ended (t : Addr) (e : Bool) : (fS t e).lookup ("ended" : Str) = some (.bl e) := (lk_past (by decide +kernel)).trans lk_here
theorem fS_close (t : Addr) (e b : Bool) : putF "ended" (.bl b) (fS t e) = fS t b := (put_past (by decide +kernel)).trans (congrArg _ put_here)
theorem fS_new (t : Addr) (e : Bool) : putF "ended" (.bl e) (putF "terms" (.ref t) []) = fS t e := (put_past (by decide +kernel)).trans rfl
theorem fN_new (x y : Int) (t : Addr) : putF "factors" (.ref t) (putF "y" (.int y) (putF "x" (.int x) [])) = fN x y t := by
  have e1 : putF "y" (V.int y) (putF "x" (.int x) []) = ([("x", .int x), ("y", .int y)] : List (Str × V)) := (put_past (by decide +kernel)).trans rfl
  rw [e1]
  exact (put_past (by decide +kernel)).trans (congrArg _ ((put_past (by decide +kernel)).trans rfl))
theorem fH_e (l : Addr) : (fH l).lookup ("entries" : Str) = some (.ref l) := lk_here
theorem fH_no {m : Str} (l : Addr) (h : (m == "entries") = false) : (fH l).lookup m = none := (lk_past h).trans rfl
theorem fH_put (l l' : Addr) : putF "entries" (.ref l') (fH l) = fH l' := put_here
def facs (F : Re04.Fun) : List Int := [F.a, F.b, F.c, F.d, F.e, F.f, F.g, F.h]
/-- an item at a, its list of terms or tuple of factors at t -/
def ItemAt (CS CN : Addr) (H : Hp) (a t : Addr) : Item → Prop
  | .stream k => (∃ dx, H a = some (.ins CS dx (fS t k.ended))) ∧ H t = some (.lst (k.terms.map V.int))
  | .node F x y => (∃ dx, H a = some (.ins CN dx (fN x y t))) ∧ H t = some (.tup ((facs F).map V.int))
structure HouseAt (CS CN CH : Addr) (H : Hp) (h l : Addr) (as ts : List Addr) (items : List Item) : Prop where
  own : ∃ dx, H h = some (.ins CH dx (fH l))
  lst : H l = some (.lst (as.map V.ref))
  la : as.length = items.length
  lt : ts.length = items.length
  nda : as.Nodup
  ndt : (l :: ts).Nodup
  at_ : ∀ (i : Nat) (a t : Addr) (it : Item), as[i]? = some a → ts[i]? = some t → items[i]? = some it → ItemAt CS CN H a t it
/-- what belongs to a house -/
def Ft (h l : Addr) (as ts : List Addr) (b : Addr) : Prop := b = h ∨ b = l ∨ b ∈ as ∨ b ∈ ts
section
variable {CE CP CS CN CH : Addr} {H H' : Hp} {h l : Addr} {as ts : List Addr} {items : List Item}
theorem ItemAt.same {a t : Addr} {it : Item} (x : ItemAt CS CN H a t it) (s : Same H H') : ItemAt CS CN H' a t it := by
  cases it with
  | stream k => exact ⟨let ⟨dx, e⟩ := x.1; ⟨dx, s _ _ e⟩, s _ _ x.2⟩
  | node F u v => exact ⟨let ⟨dx, e⟩ := x.1; ⟨dx, s _ _ e⟩, s _ _ x.2⟩
theorem HouseAt.same (x : HouseAt CS CN CH H h l as ts items) (s : Same H H') : HouseAt CS CN CH H' h l as ts items :=
  ⟨let ⟨dx, e⟩ := x.own; ⟨dx, s _ _ e⟩, s _ _ x.lst, x.la, x.lt, x.nda, x.ndt, fun i a t it h1 h2 h3 => (x.at_ i a t it h1 h2 h3).same s⟩
theorem ItemAt.there {a t : Addr} {it : Item} (x : ItemAt CS CN H a t it) : (∃ o, H a = some o) ∧ ∃ o, H t = some o := by
  cases it with
  | stream k => exact ⟨let ⟨dx, e⟩ := x.1; ⟨_, e⟩, _, x.2⟩
  | node F u v => exact ⟨let ⟨dx, e⟩ := x.1; ⟨_, e⟩, _, x.2⟩
theorem HouseAt.get (x : HouseAt CS CN CH H h l as ts items) {i : Nat} {it : Item} (e : items[i]? = some it) : ∃ a t, as[i]? = some a ∧ ts[i]? = some t ∧ ItemAt CS CN H a t it := by
  have hi := (List.getElem?_eq_some_iff.mp e).1
  obtain ⟨a, h1⟩ : ∃ a, as[i]? = some a := ⟨_, List.getElem?_eq_getElem (by rw [x.la]; exact hi)⟩
  obtain ⟨t, h2⟩ : ∃ t, ts[i]? = some t := ⟨_, List.getElem?_eq_getElem (by rw [x.lt]; exact hi)⟩
  exact ⟨a, t, h1, h2, x.at_ i a t it h1 h2 e⟩
/-- all that belongs to a house is tracked -/
theorem HouseAt.there (x : HouseAt CS CN CH H h l as ts items) {b : Addr} (f : Ft h l as ts b) : ∃ o, H b = some o := by
  rcases f with rfl | rfl | f | f
  · obtain ⟨dx, e⟩ := x.own
    exact ⟨_, e⟩
  · exact ⟨_, x.lst⟩
  · obtain ⟨i, hi, e⟩ := List.mem_iff_getElem.mp f
    have hi' : i < items.length := by rw [← x.la]; exact hi
    obtain ⟨a, t, e1, e2, z⟩ := x.get (List.getElem?_eq_getElem hi')
    have : a = b := by
      rw [List.getElem?_eq_getElem hi] at e1
      rw [← e]
      exact (Option.some.inj e1).symm
    rw [← this]
    exact z.there.1
  · obtain ⟨i, hi, e⟩ := List.mem_iff_getElem.mp f
    have hi' : i < items.length := by rw [← x.lt]; exact hi
    obtain ⟨a, t, e1, e2, z⟩ := x.get (List.getElem?_eq_getElem hi')
    have : t = b := by
      rw [List.getElem?_eq_getElem hi] at e2
      rw [← e]
      exact (Option.some.inj e2).symm
    rw [← this]
    exact z.there.2
theorem HouseAt.not_new (x : HouseAt CS CN CH H h l as ts items) {b : Addr} (n : H b = none) : ¬ Ft h l as ts b := fun f => by
  obtain ⟨o, e⟩ := x.there f
  rw [n] at e
  cases e
end
/-- what a call leaves: the house with the items then, what else was there, the answer in a new list -/
def After (CS CN CH : Addr) (H : Hp) (h l : Addr) (as ts : List Addr) (r : Re04.State × Re04.Ans) (Q : VK) : Prop := ∀ (H' : Hp) (l' : Addr) (as' ts' : List Addr) (p : Addr), HouseAt CS CN CH H' h l' as' ts' r.1.items →
  (∀ b, Ft h l' as' ts' b → Ft h l as ts b ∨ H b = none) → Kept (Ft h l as ts) H H' → H' p = some (.lst ((r.2.v :: r.2.l).map V.int)) → H p = none → Q (.ref p) H'
section
variable {CE CP CS CN CH : Addr} {H H' : Hp} {h l : Addr} {as ts : List Addr} {items : List Item} {Q : VK}
/-- a refusal, or an answer that changes nothing -/
theorem After.stay {v : Int} (x : HouseAt CS CN CH H h l as ts items) (k : After CS CN CH H h l as ts (⟨items⟩, Re04.ok v) Q) (p : Addr) (hp : H p = none) : Q (.ref p) (upd H p (.lst [.int v])) :=
  k _ l as ts p (x.same (same_upd hp)) (fun b f => .inl f) (same_kept (same_upd hp)) upd_same hp
end
section
variable {P : Program} {w : World} {K : PySem.W.Frag} {mg : Str → Option Value} {base : Heap} {CE CP CS CN CH : Addr}
/-! ### the house's own helpers -/
def spHasItem (CS CN CH : Addr) : Sp := fun vs H Q _ => ∃ (h l : Addr) (as ts : List Addr) (items : List Item) (n : Int), vs = [.ref h, .int n] ∧ HouseAt CS CN CH H h l as ts items ∧ 0 ≤ n ∧ Q (.bl (decide (n.toNat < items.length))) H
theorem sc_House_has_item : FnScope ["self", "item"] ["self", "item"] (defScope s_House_has_item) := ⟨rfl, rfl, rfl, by decide +kernel, rfl, by decide +kernel, by decide +kernel⟩
theorem ok_has_item {f : Addr} {fd : FuncData} (F : Fun K "has_item" "House.has_item" s_House_has_item f fd) (T : Txt K mg CE CP CS CN CH) : FnOk P w K mg base CX0 1 f fd ["self", "item"] (spHasItem CS CN CH) := by
  refine F.ok sc_House_has_item (fun vs H Q E h => ?_) (fun cdv A outer s H vs Q E hr h => ?_)
  · obtain ⟨h, l, as, ts, items, n, rfl, _⟩ := h
    rfl
  · obtain ⟨h, l, as, ts, items, n, rfl, X, hn, k⟩ := h
    obtain ⟨dx, eo⟩ := X.own
    refine ⟨_, (pss_one (ps_ret (pe_chain op_le op_lt pe_int (pv 1) (pe_callB call_len_seq (by rfl) T.n_len PySem.boot_len (pa_cons (pe_fld (pv 0) rfl) pa_nil))))), ?_⟩
    refine ⟨_, rfl, 0, n, rfl, rfl, _, rfl, ?_⟩
    rw [decide_eq_true hn]
    refine iteT ?_
    refine ⟨_, rfl, h, CH, dx, _, _, rfl, eo, T.clH, T.hE, fH_e l, l, _, rfl, .inl (SqL.of X.lst), n, _, rfl, rfl, ?_⟩
    rw [List.length_map, X.la]
    have e : decide (n.toNat < items.length) = decide (n < (items.length : Int)) := decide_eq_decide.mpr (by omega)
    rw [e] at k
    exact k
def spIsFull (CS CN CH : Addr) : Sp := fun vs H Q _ => ∃ (h l : Addr) (as ts : List Addr) (items : List Item), vs = [.ref h] ∧ HouseAt CS CN CH H h l as ts items ∧ Q (.bl (decide (8 ≤ items.length))) H
theorem sc_House_is_full : FnScope ["self"] ["self"] (defScope s_House_is_full) := ⟨rfl, rfl, rfl, by decide +kernel, rfl, by decide +kernel, by decide +kernel⟩
theorem ok_is_full {f : Addr} {fd : FuncData} (F : Fun K "is_full" "House.is_full" s_House_is_full f fd) (T : Txt K mg CE CP CS CN CH) : FnOk P w K mg base CX0 1 f fd ["self"] (spIsFull CS CN CH) := by
  refine F.ok sc_House_is_full (fun vs H Q E h => ?_) (fun cdv A outer s H vs Q E hr h => ?_)
  · obtain ⟨h, l, as, ts, items, rfl, _⟩ := h
    rfl
  · obtain ⟨h, l, as, ts, items, rfl, X, k⟩ := h
    obtain ⟨dx, eo⟩ := X.own
    refine ⟨_, (pss_one (ps_ret (pe_cmpR op_ge (pe_callB call_len_seq (by rfl) T.n_len PySem.boot_len (pa_cons (pe_fld (pv 0) rfl) pa_nil)) (pe_cn T.c_MOST_ITEMS rfl) (nomark _)))), ?_⟩
    refine ⟨_, rfl, h, CH, dx, _, _, rfl, eo, T.clH, T.hE, fH_e l, l, _, rfl, .inl (SqL.of X.lst), _, 8, rfl, rfl, ?_⟩
    rw [List.length_map, X.la]
    have e : decide (8 ≤ items.length) = decide ((8 : Int) ≤ (items.length : Int)) := decide_eq_decide.mpr (by omega)
    rw [e] at k
    exact k
/-- find_stream: the stream's address, or None -/
def spFind (CS CN CH : Addr) : Sp := fun vs H Q _ => ∃ (h l : Addr) (as ts : List Addr) (items : List Item) (n : Int), vs = [.ref h, .int n] ∧ HouseAt CS CN CH H h l as ts items ∧ 0 ≤ n ∧
  (∀ k a, items[n.toNat]? = some (.stream k) → as[n.toNat]? = some a → Q (.ref a) H) ∧ ((∀ k, items[n.toNat]? ≠ some (.stream k)) → Q .non H)
theorem sc_House_find_stream : FnScope ["self", "item", "entry"] ["self", "item"] (defScope s_House_find_stream) := ⟨rfl, rfl, rfl, by decide +kernel, rfl, by decide +kernel, by decide +kernel⟩
theorem ok_find {f : Addr} {fd : FuncData} (F : Fun K "find_stream" "House.find_stream" s_House_find_stream f fd) (T : Txt K mg CE CP CS CN CH) (M_House_has_item : HasM P w K mg base CH "has_item" 1 ["self", "item"] (spHasItem CS CN CH)) : FnOk P w K mg base CX0 2 f fd ["self", "item"] (spFind CS CN CH) := by
  refine F.ok sc_House_find_stream (fun vs H Q E h => ?_) (fun cdv A outer s H vs Q E hr h => ?_)
  · obtain ⟨h, l, as, ts, items, n, rfl, _⟩ := h
    rfl
  · obtain ⟨h, l, as, ts, items, n, rfl, X, hn, kS, kN⟩ := h
    obtain ⟨dx, eo⟩ := X.own
    refine ⟨_, (pss_cons (ps_if (pt_not (pt_val (pe_ownM (pv 0) M_House_has_item (hr.mono (by decide)) (pa_cons (pv 1) pa_nil))))
    (pss_one (ps_ret pe_non))
    pss_nil)
   (pss_cons (ps_set (i := 2) sc_House_find_stream.nd rfl (Or.inl rfl) (pe_ix ix_list (pe_fld (pv 0) rfl) (pv 1) (fun _ _ => rfl)))
   (pss_cons (ps_if (pt_val (pe_callB call_isi (by rfl) T.n_isinstance (by decide +kernel) (pa_cons (pv 2) (pa_cons (pe_glob (v := .ref _) rfl T.g_Stream rfl) pa_nil))))
    (pss_one (ps_ret (pv 2)))
    pss_nil)
   (pss_one (ps_ret pe_non))))), ?_⟩
    refine ⟨_, rfl, h, dx, _, rfl, eo, fH_no l (by decide +kernel), _, rfl, h, l, as, ts, items, n, rfl, X, hn, _, rfl, ?_⟩
    by_cases c : n.toNat < items.length
    · rw [decide_eq_true c]
      refine iteF ?_
      obtain ⟨it, e⟩ : ∃ it, items[n.toNat]? = some it := ⟨_, List.getElem?_eq_getElem c⟩
      obtain ⟨a, t, e1, e2, z⟩ := X.get e
      refine ⟨_, rfl, h, CH, dx, _, _, rfl, eo, T.clH, T.hE, fH_e l, _, rfl, l, _, n, .ref a, rfl, rfl, SqL.of X.lst, at_of (j := n.toNat) (by omega) (by rw [List.getElem?_map, e1]; rfl), ?_⟩
      cases it with
      | stream k =>
        obtain ⟨⟨da, ea⟩, _⟩ := z
        refine ⟨_, rfl, .ref a, .ref CS, .ref CS, .ref CS, true, rfl, ?_, T.tyS H a da _ ea, T.isSS, _, rfl, ?_⟩
        · exact .own CS
        · exact iteT ⟨_, rfl, kS k a e e1⟩
      | node F x y =>
        obtain ⟨⟨da, ea⟩, _⟩ := z
        refine ⟨_, rfl, .ref a, .ref CS, .ref CN, .ref CS, false, rfl, ?_, T.tyN H a da _ ea, T.isNS, _, rfl, ?_⟩
        · exact .own CS
        · exact iteF (kN fun k q => by rw [e] at q; cases q)
    · rw [decide_eq_false c]
      exact iteT (kN fun k q => by rw [List.getElem?_eq_none (by omega)] at q; cases q)
end
end Sv

set_option Elab.async false
set_option maxRecDepth 100000
set_option maxHeartbeats 2000000
namespace Sv
open PySem PySem.Spec PyProof.Rows L2 Hb
open PySem.W (Codec)
open TQ (Sn Rep BB swp wpg lies rawOf)
/-! ### ends and spans in the heap -/
def fE (n d : Int) (t : Bool) : List (Str × V) := [("above", .int n), ("below", .int d), ("taken", .bl t)]
def fP (a b : Addr) : List (Str × V) := [("least", .ref a), ("greatest", .ref b)]
theorem fE_above (n d : Int) (t : Bool) : (fE n d t).lookup ("above" : Str) = some (.int n) := lk_here
theorem fE_below (n d : Int) (t : Bool) : (fE n d t).lookup ("below" : Str) = some (.int d) := (lk_past (by decide +kernel)).trans lk_here
theorem fE_taken (n d : Int) (t : Bool) : (fE n d t).lookup ("taken" : Str) = some (.bl t) := (lk_past (by decide +kernel)).trans ((lk_past (by decide +kernel)).trans lk_here)
theorem fP_least (a b : Addr) : (fP a b).lookup ("least" : Str) = some (.ref a) := lk_here
theorem fP_greatest (a b : Addr) : (fP a b).lookup ("greatest" : Str) = some (.ref b) := (lk_past (by decide +kernel)).trans lk_here
theorem fE_new1 (n d : Int) : putF "below" (V.int d) (putF "above" (.int n) []) = ([("above", .int n), ("below", .int d)] : List (Str × V)) := (put_past (by decide +kernel)).trans rfl
theorem fE_new (n d : Int) (t : Bool) : putF "taken" (.bl t) (putF "below" (.int d) (putF "above" (.int n) [])) = fE n d t := by
  rw [fE_new1]
  exact (put_past (by decide +kernel)).trans (congrArg _ ((put_past (by decide +kernel)).trans rfl))
theorem fP_new (a b : Addr) : putF "greatest" (.ref b) (putF "least" (.ref a) []) = fP a b := (put_past (by decide +kernel)).trans rfl
def EndAt (CE : Addr) (H : Hp) (e : Addr) (n d : Int) (t : Bool) : Prop := ∃ dx, H e = some (.ins CE dx (fE n d t))
def SpanAt (CE CP : Addr) (H : Hp) (s : Addr) (S : Sn) : Prop := ∃ dx a b, H s = some (.ins CP dx (fP a b)) ∧ EndAt CE H a S.ln S.ld S.lt ∧ EndAt CE H b S.gn S.gd S.gt
theorem EndAt.same {CE : Addr} {H H' : Hp} {e : Addr} {n d : Int} {t : Bool} (x : EndAt CE H e n d t) (s : Same H H') : EndAt CE H' e n d t := let ⟨dx, h⟩ := x; ⟨dx, s _ _ h⟩
theorem SpanAt.same {CE CP : Addr} {H H' : Hp} {p : Addr} {S : Sn} (x : SpanAt CE CP H p S) (s : Same H H') : SpanAt CE CP H' p S := let ⟨dx, a, b, h, h1, h2⟩ := x; ⟨dx, a, b, s _ _ h, h1.same s, h2.same s⟩
/-- a span, or None -/
def OptAt (CE CP : Addr) (H : Hp) (v : V) : Option Sn → Prop
  | none => v = .non
  | some S => ∃ s, v = .ref s ∧ SpanAt CE CP H s S
theorem OptAt.same {CE CP : Addr} {H H' : Hp} {v : V} {o : Option Sn} (x : OptAt CE CP H v o) (s : Same H H') : OptAt CE CP H' v o := by
  cases o with
  | none => exact x
  | some S =>
    obtain ⟨p, e, z⟩ := x
    exact ⟨p, e, z.same s⟩
/-- within so many bits that all is reckoned without a stop -/
def Bd (n : Int) : Prop := n.natAbs < 2 ^ (BB + 200)
theorem Bd.mul {a b : Int} (ha : Bd a) (hb : Bd b) : CMulW a b := wide_mul ha hb (by omega) (by omega) (by have := TQ.BB_eq; omega)
theorem bd_of {n : Int} (h : n.natAbs < 2 ^ BB) : Bd n := Nat.lt_of_lt_of_le h (Nat.pow_le_pow_right (by omega) (by omega))
theorem bd_small {n : Int} (h : n.natAbs < 2 ^ 200) : Bd n := Nat.lt_of_lt_of_le h (Nat.pow_le_pow_right (by omega) (by omega))
section
variable {P : Program} {w : World} {K : PySem.W.Frag} {mg : Str → Option Value} {base : Heap} {CE CP CS CN CH : Addr}
def spInitE (CE : Addr) : Sp := fun vs H Q _ => ∃ (p dx : Addr) (n d : Int) (t : Bool), vs = [.ref p, .int n, .int d, .bl t] ∧ H p = some (.ins CE dx []) ∧
  ∀ (H' : Hp), H' p = some (.ins CE dx (fE n d t)) → (∀ b o, H b = some o → b ≠ p → H' b = some o) → Q .non H'
theorem sc_End_init : FnScope ["self", "above", "below", "taken"] ["self", "above", "below", "taken"] (defScope s_End_init) := ⟨rfl, rfl, rfl, by decide +kernel, rfl, by decide +kernel, by decide +kernel⟩
theorem ok_initE {f : Addr} {fd : FuncData} (F : Fun K "__init__" "End.__init__" s_End_init f fd) (T : Txt K mg CE CP CS CN CH) : FnOk P w K mg base CX0 1 f fd ["self", "above", "below", "taken"] (spInitE CE) := by
  refine F.ok sc_End_init (fun vs H Q E h => ?_) (fun cdv A outer s H vs Q E hr h => ?_)
  · obtain ⟨p, dx, n, d, t, rfl, _⟩ := h
    rfl
  · obtain ⟨p, dx, n, d, t, rfl, hp, k⟩ := h
    refine ⟨_, (pss_cons (ps_fld (pv 0) (pv 1) rfl)
   (pss_cons (ps_fld (pv 0) (pv 2) rfl)
   (pss_one (ps_fld (pv 0) (pv 3) rfl)))), ?_⟩
    refine ⟨_, rfl, _, rfl, p, CE, dx, [], rfl, hp, T.clE, T.eAbove, (by show 0 < 1000; decide), ?_⟩
    refine ⟨_, rfl, _, rfl, p, CE, dx, _, rfl, upd_same, T.clE, T.eBelow, (by show 1 < 1000; decide), ?_⟩
    refine ⟨_, rfl, _, rfl, p, CE, dx, _, rfl, upd_same, T.clE, T.eTaken, ?_, ?_⟩
    · rw [fE_new1]
      show 2 < 1000
      decide
    refine k _ ?_ ?_
    · rw [upd_same]
      exact congrArg (fun q => some (HO.ins CE dx q)) (fE_new n d t)
    · intro b o e hb
      rw [upd_ne hb, upd_ne hb, upd_ne hb]
      exact e
def spInitP (CP : Addr) : Sp := fun vs H Q _ => ∃ (p dx a b : Addr), vs = [.ref p, .ref a, .ref b] ∧ H p = some (.ins CP dx []) ∧
  ∀ (H' : Hp), H' p = some (.ins CP dx (fP a b)) → (∀ b o, H b = some o → b ≠ p → H' b = some o) → Q .non H'
theorem sc_Span_init : FnScope ["self", "least", "greatest"] ["self", "least", "greatest"] (defScope s_Span_init) := ⟨rfl, rfl, rfl, by decide +kernel, rfl, by decide +kernel, by decide +kernel⟩
theorem ok_initP {f : Addr} {fd : FuncData} (F : Fun K "__init__" "Span.__init__" s_Span_init f fd) (T : Txt K mg CE CP CS CN CH) : FnOk P w K mg base CX0 1 f fd ["self", "least", "greatest"] (spInitP CP) := by
  refine F.ok sc_Span_init (fun vs H Q E h => ?_) (fun cdv A outer s H vs Q E hr h => ?_)
  · obtain ⟨p, dx, a, b, rfl, _⟩ := h
    rfl
  · obtain ⟨p, dx, a, b, rfl, hp, k⟩ := h
    refine ⟨_, (pss_cons (ps_fld (pv 0) (pv 1) rfl)
   (pss_one (ps_fld (pv 0) (pv 2) rfl))), ?_⟩
    refine ⟨_, rfl, _, rfl, p, CP, dx, [], rfl, hp, T.clP, T.pLeast, (by show 0 < 1000; decide), ?_⟩
    refine ⟨_, rfl, _, rfl, p, CP, dx, _, rfl, upd_same, T.clP, T.pGreatest, (by show 1 < 1000; decide), ?_⟩
    refine k _ ?_ ?_
    · rw [upd_same]
      exact congrArg (fun q => some (HO.ins CP dx q)) (fP_new a b)
    · intro b o e hb
      rw [upd_ne hb, upd_ne hb]
      exact e
def spCompared (CE : Addr) : Sp := fun vs H Q _ => ∃ (a b : Int) (e : Addr) (n d : Int) (t : Bool), vs = [.int a, .int b, .ref e] ∧ EndAt CE H e n d t ∧ Bd a ∧ Bd b ∧ Bd n ∧ Bd d ∧ Q (.int (a * d - n * b)) H
theorem sc_compared : FnScope ["above", "below", "end"] ["above", "below", "end"] (defScope s_compared) := ⟨rfl, rfl, rfl, by decide +kernel, rfl, by decide +kernel, by decide +kernel⟩
theorem ok_compared {f : Addr} {fd : FuncData} (F : Fun K "compared" "compared" s_compared f fd) (T : Txt K mg CE CP CS CN CH) : FnOk P w K mg base CX0 1 f fd ["above", "below", "end"] (spCompared CE) := by
  refine F.ok sc_compared (fun vs H Q E h => ?_) (fun cdv A outer s H vs Q E hr h => ?_)
  · obtain ⟨a, b, e, n, d, t, rfl, _⟩ := h
    rfl
  · obtain ⟨a, b, e, n, d, t, rfl, ⟨dx, he⟩, ha, hb, hn, hd, k⟩ := h
    refine ⟨_, (pss_one (ps_ret (pe_op op_sub (pe_op op_mulW (pv 0) (pe_fld (pv 2) rfl)) (pe_op op_mulW (pe_fld (pv 2) rfl) (pv 1))))), ?_⟩
    exact ⟨_, rfl, _, rfl, e, CE, dx, _, _, rfl, he, T.clE, T.eBelow, fE_below n d t, _, _, rfl, rfl, ha.mul hd, _, rfl, e, CE, dx, _, _, rfl, he, T.clE, T.eAbove, fE_above n d t, _, rfl, _, _, rfl, rfl, hn.mul hb, _, _, rfl, rfl, k⟩
def spAlone (CE CP : Addr) : Sp := fun vs H Q _ => ∃ (s : Addr) (S : Sn), vs = [.ref s] ∧ SpanAt CE CP H s S ∧ Bd S.ln ∧ Bd S.ld ∧ Bd S.gn ∧ Bd S.gd ∧ Q (.bl (decide (S.ln * S.gd - S.gn * S.ld = 0))) H
theorem sc_is_alone : FnScope ["span"] ["span"] (defScope s_is_alone) := ⟨rfl, rfl, rfl, by decide +kernel, rfl, by decide +kernel, by decide +kernel⟩
theorem ok_alone {f : Addr} {fd : FuncData} (F : Fun K "is_alone" "is_alone" s_is_alone f fd) (T : Txt K mg CE CP CS CN CH) (D_compared : Has P w K mg base "compared" 1 ["above", "below", "end"] (spCompared CE)) : FnOk P w K mg base CX0 2 f fd ["span"] (spAlone CE CP) := by
  refine F.ok sc_is_alone (fun vs H Q E h => ?_) (fun cdv A outer s H vs Q E hr h => ?_)
  · obtain ⟨p, S, rfl, _⟩ := h
    rfl
  · obtain ⟨p, S, rfl, ⟨dx, a, b, hp, ⟨da, ha⟩, ⟨db, hb⟩⟩, h1, h2, h3, h4, k⟩ := h
    refine ⟨_, (pss_one (ps_ret (pe_cmpR op_eq (pe_own D_compared (hr.mono (by decide)) rfl (pa_cons (pe_fld (pe_fld (pv 0) rfl) rfl) (pa_cons (pe_fld (pe_fld (pv 0) rfl) rfl) (pa_cons (pe_fld (pv 0) rfl) pa_nil)))) pe_int (nomark _)))), ?_⟩
    refine ⟨_, rfl, p, CP, dx, _, _, rfl, hp, T.clP, T.pLeast, fP_least a b, a, CE, da, _, _, rfl, ha, T.clE, T.eAbove, fE_above _ _ _, ?_⟩
    refine ⟨_, rfl, p, CP, dx, _, _, rfl, hp, T.clP, T.pLeast, fP_least a b, a, CE, da, _, _, rfl, ha, T.clE, T.eBelow, fE_below _ _ _, ?_⟩
    refine ⟨_, rfl, p, CP, dx, _, _, rfl, hp, T.clP, T.pGreatest, fP_greatest a b, ?_⟩
    refine ⟨_, _, b, _, _, _, rfl, ⟨db, hb⟩, h1, h2, h3, h4, rfl, ?_⟩
    rw [decI]
    exact k
/-! ### whole parts -/
def spWpl (CE : Addr) : Sp := fun vs H Q _ => ∃ (e : Addr) (n d : Int) (t : Bool) (m : Int), vs = [.ref e, .int m] ∧ EndAt CE H e n d t ∧ 0 < d ∧ Bd n ∧ Bd m ∧ Q (.int (n * m / d)) H
theorem sc_whole_part_of_least : FnScope ["end", "times"] ["end", "times"] (defScope s_whole_part_of_least) := ⟨rfl, rfl, rfl, by decide +kernel, rfl, by decide +kernel, by decide +kernel⟩
theorem ok_wpl {f : Addr} {fd : FuncData} (F : Fun K "whole_part_of_least" "whole_part_of_least" s_whole_part_of_least f fd) (T : Txt K mg CE CP CS CN CH) (CM : Cm P base) : FnOk P w K mg base CX0 33 f fd ["end", "times"] (spWpl CE) := by
  refine F.ok sc_whole_part_of_least (fun vs H Q E h => ?_) (fun cdv A outer s H vs Q E hr h => ?_)
  · obtain ⟨e, n, d, t, m, rfl, _⟩ := h
    rfl
  · obtain ⟨e, n, d, t, m, rfl, ⟨dx, he⟩, hd, hn, hm, k⟩ := h
    refine ⟨_, (pss_one (ps_ret (pe_op (op_fdivB (calm_of CM (hr.mono (by decide)) rfl rfl rfl)) (pe_op op_mulW (pe_fld (pv 0) rfl) (pv 1)) (pe_fld (pv 0) rfl)))), ?_⟩
    exact ⟨_, rfl, e, CE, dx, _, _, rfl, he, T.clE, T.eAbove, fE_above n d t, _, rfl, _, _, rfl, rfl, hn.mul hm, _, rfl, e, CE, dx, _, _, rfl, he, T.clE, T.eBelow, fE_below n d t, _, _, rfl, rfl, hd, k⟩
def spWpg (CE : Addr) : Sp := fun vs H Q _ => ∃ (e : Addr) (n d : Int) (t : Bool) (m : Int), vs = [.ref e, .int m] ∧ EndAt CE H e n d t ∧ 0 < d ∧ Bd n ∧ Bd m ∧ Q (.int (wpg (n * m) d t)) H
theorem sc_whole_part_of_greatest : FnScope ["end", "times"] ["end", "times"] (defScope s_whole_part_of_greatest) := ⟨rfl, rfl, rfl, by decide +kernel, rfl, by decide +kernel, by decide +kernel⟩
theorem ok_wpg {f : Addr} {fd : FuncData} (F : Fun K "whole_part_of_greatest" "whole_part_of_greatest" s_whole_part_of_greatest f fd) (T : Txt K mg CE CP CS CN CH) (CM : Cm P base) : FnOk P w K mg base CX0 33 f fd ["end", "times"] (spWpg CE) := by
  refine F.ok sc_whole_part_of_greatest (fun vs H Q E h => ?_) (fun cdv A outer s H vs Q E hr h => ?_)
  · obtain ⟨e, n, d, t, m, rfl, _⟩ := h
    rfl
  · obtain ⟨e, n, d, t, m, rfl, ⟨dx, he⟩, hd, hn, hm, k⟩ := h
    refine ⟨_, (pss_cons (ps_if (pt_val (pe_fld (pv 0) rfl))
    (pss_one (ps_ret (pe_op (op_fdivB (calm_of CM (hr.mono (by decide)) rfl rfl rfl)) (pe_op op_mulW (pe_fld (pv 0) rfl) (pv 1)) (pe_fld (pv 0) rfl))))
    pss_nil)
   (pss_one (ps_ret (pe_op (op_fdivB (calm_of CM (hr.mono (by decide)) rfl rfl rfl)) (pe_op op_sub (pe_op op_mulW (pe_fld (pv 0) rfl) (pv 1)) pe_int) (pe_fld (pv 0) rfl))))), ?_⟩
    refine ⟨_, rfl, e, CE, dx, _, _, rfl, he, T.clE, T.eTaken, fE_taken n d t, _, rfl, ?_⟩
    cases t with
    | true =>
      refine iteT ?_
      exact ⟨_, rfl, e, CE, dx, _, _, rfl, he, T.clE, T.eAbove, fE_above n d true, _, rfl, _, _, rfl, rfl, hn.mul hm, _, rfl, e, CE, dx, _, _, rfl, he, T.clE, T.eBelow, fE_below n d true, _, _, rfl, rfl, hd, k⟩
    | false =>
      refine iteF ?_
      exact ⟨_, rfl, e, CE, dx, _, _, rfl, he, T.clE, T.eAbove, fE_above n d false, _, rfl, _, _, rfl, rfl, hn.mul hm, _, _, rfl, rfl, _, rfl, e, CE, dx, _, _, rfl, he, T.clE, T.eBelow, fE_below n d false, _, _, rfl, rfl, hd, k⟩
def optI : Option Int → V
  | none => .non
  | some n => .int n
def spSwp (CE CP : Addr) : Sp := fun vs H Q _ => ∃ (p : Addr) (S : Sn) (m : Int), vs = [.ref p, .int m] ∧ SpanAt CE CP H p S ∧ 0 < S.ld ∧ 0 < S.gd ∧ Bd S.ln ∧ Bd S.gn ∧ Bd m ∧ Q (optI (swp S m)) H
theorem sc_shared_whole_part : FnScope ["span", "times", "part"] ["span", "times"] (defScope s_shared_whole_part) := ⟨rfl, rfl, rfl, by decide +kernel, rfl, by decide +kernel, by decide +kernel⟩
theorem ok_swp {f : Addr} {fd : FuncData} (F : Fun K "shared_whole_part" "shared_whole_part" s_shared_whole_part f fd) (T : Txt K mg CE CP CS CN CH) (D_whole_part_of_least : Has P w K mg base "whole_part_of_least" 33 ["end", "times"] (spWpl CE)) (D_whole_part_of_greatest : Has P w K mg base "whole_part_of_greatest" 33 ["end", "times"] (spWpg CE)) :
    FnOk P w K mg base CX0 34 f fd ["span", "times"] (spSwp CE CP) := by
  refine F.ok sc_shared_whole_part (fun vs H Q E h => ?_) (fun cdv A outer s H vs Q E hr h => ?_)
  · obtain ⟨p, S, m, rfl, _⟩ := h
    rfl
  · obtain ⟨p, S, m, rfl, ⟨dx, a, b, hp, ha, hb⟩, h1, h2, h3, h4, h5, k⟩ := h
    refine ⟨_, (pss_cons (ps_set (i := 2) sc_shared_whole_part.nd rfl (Or.inl rfl) (pe_own D_whole_part_of_least (hr.mono (by decide)) rfl (pa_cons (pe_fld (pv 0) rfl) (pa_cons (pv 1) pa_nil))))
   (pss_cons (ps_if (pt_cmpR op_eq (pe_own D_whole_part_of_greatest (hr.mono (by decide)) rfl (pa_cons (pe_fld (pv 0) rfl) (pa_cons (pv 1) pa_nil))) (pv 2) (nomark _))
    (pss_one (ps_ret (pv 2)))
    pss_nil)
   (pss_one (ps_ret pe_non)))), ?_⟩
    refine ⟨_, rfl, p, CP, dx, _, _, rfl, hp, T.clP, T.pLeast, fP_least a b, _, rfl, a, _, _, _, m, rfl, ha, h1, h3, h5, ?_⟩
    refine ⟨_, rfl, p, CP, dx, _, _, rfl, hp, T.clP, T.pGreatest, fP_greatest a b, _, rfl, b, _, _, _, m, rfl, hb, h2, h4, h5, ?_⟩
    refine ⟨_, rfl, rfl, _, rfl, ?_⟩
    rw [decI]
    unfold swp at k
    by_cases c : wpg (S.gn * m) S.gd S.gt = S.ln * m / S.ld
    · rw [if_pos c] at k
      rw [decide_eq_true c]
      exact iteT ⟨_, rfl, k⟩
    · rw [if_neg c] at k
      rw [decide_eq_false c]
      exact iteF k
/-! ### lies_within, turned -/
def spLies (CE CP : Addr) : Sp := fun vs H Q _ => ∃ (p : Addr) (S : Sn) (n d : Int), vs = [.ref p, .int n, .int d] ∧ SpanAt CE CP H p S ∧ Bd S.ln ∧ Bd S.ld ∧ Bd S.gn ∧ Bd S.gd ∧ Bd n ∧ Bd d ∧ Q (.bl (lies S n d)) H
theorem sc_lies_within : FnScope ["span", "above", "below", "over_least", "over_greatest"] ["span", "above", "below"] (defScope s_lies_within) := ⟨rfl, rfl, rfl, by decide +kernel, rfl, by decide +kernel, by decide +kernel⟩
theorem ok_lies {f : Addr} {fd : FuncData} (F : Fun K "lies_within" "lies_within" s_lies_within f fd) (T : Txt K mg CE CP CS CN CH) (D_compared : Has P w K mg base "compared" 1 ["above", "below", "end"] (spCompared CE)) : FnOk P w K mg base CX0 2 f fd ["span", "above", "below"] (spLies CE CP) := by
  refine F.ok sc_lies_within (fun vs H Q E h => ?_) (fun cdv A outer s H vs Q E hr h => ?_)
  · obtain ⟨p, S, n, d, rfl, _⟩ := h
    rfl
  · obtain ⟨p, S, n, d, rfl, ⟨dx, a, b, hp, ⟨da, ha⟩, ⟨db, hb⟩⟩, h1, h2, h3, h4, h5, h6, k⟩ := h
    refine ⟨_, (pss_cons (ps_set (i := 3) sc_lies_within.nd rfl (Or.inl rfl) (pe_own D_compared (hr.mono (by decide)) rfl (pa_cons (pv 1) (pa_cons (pv 2) (pa_cons (pe_fld (pv 0) rfl) pa_nil)))))
   (pss_cons (ps_set (i := 4) sc_lies_within.nd rfl (Or.inl rfl) (pe_own D_compared (hr.mono (by decide)) rfl (pa_cons (pv 1) (pa_cons (pv 2) (pa_cons (pe_fld (pv 0) rfl) pa_nil)))))
   (pss_cons (ps_if (pt_cmpR op_eq (pv 3) pe_int (nomark _))
    (pss_one (ps_ret (pe_fld (pe_fld (pv 0) rfl) rfl)))
    pss_nil)
   (pss_cons (ps_if (pt_cmpR op_eq (pv 4) pe_int (nomark _))
    (pss_one (ps_ret (pe_fld (pe_fld (pv 0) rfl) rfl)))
    pss_nil)
   (pss_one (ps_ret (pe_and (pe_cmpR op_gt (pv 3) pe_int (nomark _)) (pe_one (pe_cmpR op_lt (pv 4) pe_int (nomark _)))))))))), ?_⟩
    refine ⟨_, rfl, _, rfl, _, rfl, p, CP, dx, _, _, rfl, hp, T.clP, T.pLeast, fP_least a b, _, _, a, _, _, _, rfl, ⟨da, ha⟩, h5, h6, h1, h2, ?_⟩
    refine ⟨_, rfl, _, rfl, _, rfl, p, CP, dx, _, _, rfl, hp, T.clP, T.pGreatest, fP_greatest a b, _, _, b, _, _, _, rfl, ⟨db, hb⟩, h5, h6, h3, h4, ?_⟩
    unfold lies at k
    refine ⟨_, rfl, rfl, _, rfl, ?_⟩
    rw [decI]
    by_cases c : n * S.ld - S.ln * d = 0
    · rw [if_pos c] at k
      rw [decide_eq_true c]
      exact iteT ⟨_, rfl, p, CP, dx, _, _, rfl, hp, T.clP, T.pLeast, fP_least a b, a, CE, da, _, _, rfl, ha, T.clE, T.eTaken, fE_taken _ _ _, k⟩
    · rw [if_neg c] at k
      rw [decide_eq_false c]
      refine iteF ⟨_, rfl, rfl, _, rfl, ?_⟩
      rw [decI]
      by_cases c2 : n * S.gd - S.gn * d = 0
      · rw [if_pos c2] at k
        rw [decide_eq_true c2]
        exact iteT ⟨_, rfl, p, CP, dx, _, _, rfl, hp, T.clP, T.pGreatest, fP_greatest a b, b, CE, db, _, _, rfl, hb, T.clE, T.eTaken, fE_taken _ _ _, k⟩
      · rw [if_neg c2] at k
        rw [decide_eq_false c2]
        refine iteF ⟨_, rfl, _, _, rfl, rfl, _, rfl, ?_⟩
        by_cases c3 : 0 < n * S.ld - S.ln * d
        · rw [decide_eq_true c3] at k ⊢
          exact iteT ⟨_, rfl, _, _, rfl, rfl, k⟩
        · rw [decide_eq_false c3] at k ⊢
          exact iteF k
def spTurned (CE : Addr) : Sp := fun vs H Q _ => ∃ (e : Addr) (n d : Int) (t : Bool) (a : Int), vs = [.ref e, .int a] ∧ EndAt CE H e n d t ∧ Bd a ∧ Bd d ∧ ∀ (H' : Hp) (x : Addr), Same H H' → EndAt CE H' x d (n - a * d) t → Q (.ref x) H'
theorem sc_turned : FnScope ["end", "part"] ["end", "part"] (defScope s_turned) := ⟨rfl, rfl, rfl, by decide +kernel, rfl, by decide +kernel, by decide +kernel⟩
theorem ok_turned {f : Addr} {fd : FuncData} (F : Fun K "turned" "turned" s_turned f fd) (T : Txt K mg CE CP CS CN CH) (I_End : HasC P w K mg base "End" CE 1 ["self", "above", "below", "taken"] (spInitE CE)) : FnOk P w K mg base CX0 3 f fd ["end", "part"] (spTurned CE) := by
  refine F.ok sc_turned (fun vs H Q E h => ?_) (fun cdv A outer s H vs Q E hr h => ?_)
  · obtain ⟨e, n, d, t, a, rfl, _⟩ := h
    rfl
  · obtain ⟨e, n, d, t, a, rfl, ⟨dx, he⟩, ha, hd, k⟩ := h
    refine ⟨_, (pss_one (ps_ret (pe_ownC I_End (hr.mono (by decide)) rfl (pa_cons (pe_fld (pv 0) rfl) (pa_cons (pe_op op_sub (pe_fld (pv 0) rfl) (pe_op op_mulW (pv 1) (pe_fld (pv 0) rfl))) (pa_cons (pe_fld (pv 0) rfl) pa_nil)))))), ?_⟩
    refine ⟨_, rfl, e, CE, dx, _, _, rfl, he, T.clE, T.eBelow, fE_below n d t, ?_⟩
    refine ⟨_, rfl, e, CE, dx, _, _, rfl, he, T.clE, T.eAbove, fE_above n d t, _, rfl, _, rfl, e, CE, dx, _, _, rfl, he, T.clE, T.eBelow, fE_below n d t, _, _, rfl, rfl, ha.mul hd, _, _, rfl, rfl, ?_⟩
    refine ⟨_, rfl, e, CE, dx, _, _, rfl, he, T.clE, T.eTaken, fE_taken n d t, ?_⟩
    intro x dy nx ndy ne
    exact ⟨x, dy, _, _, _, rfl, upd_same, fun H1 hx kp => ⟨rfl, k H1 x (Same.made nx ndy kp) ⟨dy, hx⟩⟩⟩
end
end Sv

set_option Elab.async false
set_option maxRecDepth 100000
set_option maxHeartbeats 2000000
namespace Sv
open PySem PySem.Spec PyProof.Rows L2 Hb
open PySem.W (Codec)
open TQ (Sn Rep BB swp wpg lies rawOf)
section
variable {P : Program} {w : World} {K : PySem.W.Frag} {mg : Str → Option Value} {base : Heap} {CE CP CS CN CH : Addr}
/-- a new list of whole numbers, all else as it was -/
def NewInts (H : Hp) (l : List Int) (Q : VK) : Prop := ∀ (H' : Hp) (p : Addr), Same H H' → H p = none → H' p = some (.lst (l.map V.int)) → Q (.ref p) H'
theorem same_put {H H' : Hp} {p : Addr} {o : HO} (h : Same H H') (n : H p = none) : Same H (upd H' p o) := fun b u e => by
  rw [upd_ne (ne_of_none e n)]
  exact h b u e
/-! ### terms_of_fraction -/
def spTof : Sp := fun vs H Q _ => ∃ (n d : Int) (x : Re04.Q), vs = [.int n, .int d] ∧ TQ.Red x ∧ TQ.Is x n d ∧ 0 < d ∧ x.terms.length ≤ 1000000 ∧ NewInts H x.terms Q
def LpTof (H : Hp) (p : Addr) (x0 : Re04.Q) (m : Nat) (σ : L2.St) (H' : Hp) : Prop := ∃ (n d : Int) (out : List Int) (v3 : Option V), m = d.toNat ∧ σ = [some (.int n), some (.int d), some (.ref p), v3] ∧ Same H H' ∧ H' p = some (.lst (out.map V.int)) ∧ 0 ≤ d ∧
  (d = 0 → out = x0.terms) ∧ (0 < d → ∃ x, TQ.Red x ∧ TQ.Is x n d ∧ out ++ x.terms = x0.terms)
theorem sc_terms_of_fraction : FnScope ["above", "below", "terms", "parts"] ["above", "below"] (defScope s_terms_of_fraction) := ⟨rfl, rfl, rfl, by decide +kernel, rfl, by decide +kernel, by decide +kernel⟩
theorem ok_tof {f : Addr} {fd : FuncData} (F : Fun K "terms_of_fraction" "terms_of_fraction" s_terms_of_fraction f fd) (T : Txt K mg CE CP CS CN CH) (CM : Cm P base) : FnOk P w K mg base CX0 33 f fd ["above", "below"] spTof := by
  refine F.ok sc_terms_of_fraction (fun vs H Q E h => ?_) (fun cdv A outer s H vs Q E hr h => ?_)
  · obtain ⟨n, d, x, rfl, _⟩ := h
    rfl
  · obtain ⟨n, d, x0, rfl, hx, hi, hd, hl, k⟩ := h
    refine ⟨_, (pss_cons (ps_set (i := 2) sc_terms_of_fraction.nd rfl (Or.inl rfl) (pe_lst pa_nil))
   (pss_cons (ps_while PassesOwn.never (pt_cmpR op_ne (pv 1) pe_int (nomark _))
    (pss_cons (ps_set (i := 3) sc_terms_of_fraction.nd rfl (Or.inl rfl) (pe_callB (call_divmodB (calm_of CM (hr.mono (by decide)) rfl rfl rfl)) (by rfl) T.n_divmod (by decide +kernel) (pa_cons (pv 0) (pa_cons (pv 1) pa_nil))))
   (pss_cons (ps_expr (pe_bm PySem.F.plainAttrs_list PySem.F.slot_list_append PySem.F.type_list_append mt_append (pv 2) (pa_cons (pe_ix ix_tup (pv 3) pe_int (fun _ _ => rfl)) pa_nil)))
   (pss_cons (ps_set (i := 0) sc_terms_of_fraction.nd rfl (Or.inl rfl) (pv 1))
   (pss_one (ps_set (i := 1) sc_terms_of_fraction.nd rfl (Or.inl rfl) (pe_ix ix_tup (pv 3) pe_int (fun _ _ => rfl))))))))
   (pss_one (ps_ret (pv 2))))), ?_⟩
    refine ⟨Nat.zero_le _, fun p np => ?_⟩
    refine ⟨LpTof H p x0, ⟨d.toNat, n, d, [], none, rfl, rfl, same_upd np, upd_same, by omega, fun z => by omega, fun _ => ⟨x0, hx, hi, rfl⟩⟩, ?_⟩
    rintro m σ H' ⟨n, d, out, v3, rfl, rfl, sH, hp, h0, hz, hs⟩
    refine ⟨_, rfl, rfl, _, rfl, ?_⟩
    rw [decI]
    by_cases c : d = 0
    · subst c
      rw [decide_eq_true rfl]
      refine iteF ?_
      refine ⟨_, rfl, k H' p sH np ?_⟩
      rw [hp, hz rfl]
    · rw [decide_eq_false c]
      refine iteT ?_
      have hd : 0 < d := by omega
      obtain ⟨x, rx, ix, ex⟩ := hs hd
      refine ⟨fun σ2 H2 => ∃ m', m' < d.toNat ∧ LpTof H p x0 m' σ2 H2, fun _ _ z => z, ?_⟩
      refine ⟨_, rfl, _, rfl, n, d, rfl, hd, fun q nq => ?_⟩
      have npq : p ≠ q := ne_of_none hp nq
      have hp2 : upd H' q (.tup [.int (n / d), .int (n % d)]) p = some (.lst (out.map V.int)) := by rw [upd_ne npq]; exact hp
      have st := TQ.terms_step rx hd ix
      have len : out.length + x.terms.length ≤ 1000000 := by rw [← ex, List.length_append] at hl; exact hl
      have len2 : out.length < sizeLine := Nat.lt_of_le_of_lt (show out.length ≤ 1000000 by omega) (by decide)
      refine ⟨_, rfl, .inl ⟨rfl, _, SqL.of hp2⟩, _, rfl, q, _, 0, .int (n / d), rfl, rfl, SqT.of upd_same, atI_nat (j := 0) rfl, p, _, _, rfl, rfl, hp2, ?_, ?_⟩
      · rw [List.length_map]
        exact len2
      have e1 : out.map V.int ++ [V.int (n / d)] = (out ++ [n / d]).map V.int := by simp
      rw [e1]
      have sH2 : Same H (upd (upd H' q (.tup [.int (n / d), .int (n % d)])) p (.lst ((out ++ [n / d]).map V.int))) := same_put (sH.trans (same_upd nq)) np
      have hq3 : upd (upd H' q (.tup [.int (n / d), .int (n % d)])) p (.lst ((out ++ [n / d]).map V.int)) q = some (.tup [.int (n / d), .int (n % d)]) := by rw [upd_ne (Ne.symm npq), upd_same]
      refine ⟨_, rfl, ?_⟩
      refine ⟨_, rfl, q, _, 1, .int (n % d), rfl, rfl, SqT.of hq3, atI_nat (j := 1) rfl, ?_⟩
      have m0 := Int.emod_nonneg n (show d ≠ 0 by omega)
      have m1 := Int.emod_lt_of_pos n hd
      refine ⟨(n % d).toNat, by omega, d, n % d, out ++ [n / d], _, rfl, rfl, sH2, upd_same, m0, fun z => ?_, fun z => ?_⟩
      · rw [← ex, st.1 z]
      · obtain ⟨t1, t2, t3⟩ := st.2 (by omega)
        refine ⟨_, t2, t3, ?_⟩
        rw [← ex, t1, List.append_assoc]
        rfl
/-! ### greatest_divisor, told_end -/
def spGcd : Sp := fun vs H Q _ => ∃ (a b : Nat), vs = [.int a, .int b] ∧ Q (.int (Nat.gcd a b : Nat)) H
def LpGcd (H : Hp) (g : Nat) (m : Nat) (σ : L2.St) (H' : Hp) : Prop := ∃ (a b : Nat) (v2 : Option V), m = b ∧ σ = [some (.int a), some (.int b), v2] ∧ H' = H ∧ Nat.gcd a b = g
theorem sc_greatest_divisor : FnScope ["first", "second", "rest"] ["first", "second"] (defScope s_greatest_divisor) := ⟨rfl, rfl, rfl, by decide +kernel, rfl, by decide +kernel, by decide +kernel⟩
theorem ok_gcd {f : Addr} {fd : FuncData} (F : Fun K "greatest_divisor" "greatest_divisor" s_greatest_divisor f fd) (T : Txt K mg CE CP CS CN CH) : FnOk P w K mg base CX0 1 f fd ["first", "second"] spGcd := by
  refine F.ok sc_greatest_divisor (fun vs H Q E h => ?_) (fun cdv A outer s H vs Q E hr h => ?_)
  · obtain ⟨a, b, rfl, _⟩ := h
    rfl
  · obtain ⟨a, b, rfl, k⟩ := h
    refine ⟨_, (pss_cons (ps_while PassesOwn.never (pt_cmpR op_ne (pv 1) pe_int (nomark _))
    (pss_cons (ps_set (i := 2) sc_greatest_divisor.nd rfl (Or.inl rfl) (pe_op op_modN (pv 0) (pv 1)))
   (pss_cons (ps_set (i := 0) sc_greatest_divisor.nd rfl (Or.inl rfl) (pv 1))
   (pss_one (ps_set (i := 1) sc_greatest_divisor.nd rfl (Or.inl rfl) (pv 2))))))
   (pss_one (ps_ret (pv 0)))), ?_⟩
    refine ⟨LpGcd H (Nat.gcd a b), ⟨b, a, b, none, rfl, rfl, rfl, rfl⟩, ?_⟩
    rintro v σ H' ⟨u, _, v2, rfl, rfl, rfl, eg⟩
    refine ⟨_, rfl, rfl, _, rfl, ?_⟩
    rw [decI]
    by_cases c : v = 0
    · subst c
      rw [decide_eq_true (show ((0 : Nat) : Int) = 0 from rfl)]
      refine iteF ⟨_, rfl, ?_⟩
      rw [Nat.gcd_zero_right] at eg
      rw [eg]
      exact k
    · rw [decide_eq_false (show ¬ (v : Int) = 0 by omega)]
      refine iteT ⟨fun σ2 H2 => ∃ m', m' < v ∧ LpGcd H' (Nat.gcd a b) m' σ2 H2, fun _ _ z => z, ?_⟩
      refine ⟨_, rfl, _, rfl, _, _, rfl, rfl, (by show (v : Int) ≠ 0; omega), ?_⟩
      have e : (u : Int).fmod (v : Int) = ((u % v : Nat) : Int) := by
        rw [Int.fmod_eq_emod_of_nonneg _ (by omega)]
        rfl
      refine ⟨_, rfl, _, rfl, ?_⟩
      refine ⟨u % v, Nat.mod_lt _ (by omega), v, u % v, some (.int ((u : Int).fmod (v : Int))), rfl, ?_, rfl, ?_⟩
      · show [some (V.int v), some (V.int ((u : Int).fmod (v : Int))), some (V.int ((u : Int).fmod (v : Int)))] = _
        rw [e]
      rw [← eg, Nat.gcd_comm v, ← Nat.gcd_rec, Nat.gcd_comm]
def spTold (CE : Addr) : Sp := fun vs H Q _ => ∃ (e : Addr) (n d : Int) (t : Bool) (x : Re04.Q), vs = [.ref e] ∧ EndAt CE H e n d t ∧ TQ.Red x ∧ TQ.Is x n d ∧ 0 < d ∧ NewInts H [Re04.flag t, x.n, x.d] Q
theorem sc_told_end : FnScope ["end", "divisor"] ["end"] (defScope s_told_end) := ⟨rfl, rfl, rfl, by decide +kernel, rfl, by decide +kernel, by decide +kernel⟩
theorem ok_told {f : Addr} {fd : FuncData} (F : Fun K "told_end" "told_end" s_told_end f fd) (T : Txt K mg CE CP CS CN CH) (CM : Cm P base) (D_greatest_divisor : Has P w K mg base "greatest_divisor" 1 ["first", "second"] spGcd) : FnOk P w K mg base CX0 33 f fd ["end"] (spTold CE) := by
  refine F.ok sc_told_end (fun vs H Q E h => ?_) (fun cdv A outer s H vs Q E hr h => ?_)
  · obtain ⟨e, n, d, t, x, rfl, _⟩ := h
    rfl
  · obtain ⟨e, n, d, t, x, rfl, ⟨dx, he⟩, rx, ix, hd, k⟩ := h
    refine ⟨_, (pss_cons (ps_set (i := 1) sc_told_end.nd rfl (Or.inl rfl) (pe_own D_greatest_divisor (hr.mono (by decide)) rfl (pa_cons (pe_callB call_abs (by rfl) T.n_abs (by decide +kernel) (pa_cons (pe_fld (pv 0) rfl) pa_nil)) (pa_cons (pe_fld (pv 0) rfl) pa_nil))))
   (pss_one (ps_ret (pe_lst (pa_cons (pe_ifExp (pt_val (pe_fld (pv 0) rfl)) pe_int pe_int) (pa_cons (pe_op (op_fdivB (calm_of CM (hr.mono (by decide)) rfl rfl rfl)) (pe_fld (pv 0) rfl) (pv 1)) (pa_cons (pe_op (op_fdivB (calm_of CM (hr.mono (by decide)) rfl rfl rfl)) (pe_fld (pv 0) rfl) (pv 1)) pa_nil))))))), ?_⟩
    have lw := TQ.lowest rx hd ix
    have eg : Nat.gcd n.natAbs d.toNat = Int.gcd n d := by
      unfold Int.gcd
      have : d.toNat = d.natAbs := by omega
      rw [this]
    have gp : 0 < Int.gcd n d := Int.gcd_pos_of_ne_zero_right n (by omega)
    refine ⟨_, rfl, e, CE, dx, _, _, rfl, he, T.clE, T.eAbove, fE_above n d t, _, rfl, ?_⟩
    refine ⟨_, rfl, e, CE, dx, _, _, rfl, he, T.clE, T.eBelow, fE_below n d t, ?_⟩
    have ea : (if n < 0 then -n else n) = ((n.natAbs : Nat) : Int) := by
      split <;> omega
    have ed : d = ((d.toNat : Nat) : Int) := by omega
    refine ⟨n.natAbs, d.toNat, ?_, ?_⟩
    · rw [ea, ← ed]
      rfl
    rw [eg]
    have fin : ∀ p, H p = none → Q (.ref p) (upd H p (.lst [.int (Re04.flag t), .int (n / (Int.gcd n d : Int)), .int (d / (Int.gcd n d : Int))])) := fun p np => by
      refine k _ p (same_upd np) np ?_
      rw [upd_same, lw.1, lw.2]
      rfl
    refine ⟨_, rfl, e, CE, dx, _, _, rfl, he, T.clE, T.eTaken, fE_taken n d t, _, rfl, ?_⟩
    cases t with
    | true =>
      refine iteT ?_
      refine ⟨_, rfl, e, CE, dx, _, _, rfl, he, T.clE, T.eAbove, fE_above n d true, _, rfl, _, _, rfl, rfl, (by show (0 : Int) < (Int.gcd n d : Nat); omega), ?_⟩
      refine ⟨_, rfl, e, CE, dx, _, _, rfl, he, T.clE, T.eBelow, fE_below n d true, _, rfl, _, _, rfl, rfl, (by show (0 : Int) < (Int.gcd n d : Nat); omega), ?_⟩
      exact ⟨(by show 3 ≤ sizeLine; decide), fin⟩
    | false =>
      refine iteF ?_
      refine ⟨_, rfl, e, CE, dx, _, _, rfl, he, T.clE, T.eAbove, fE_above n d false, _, rfl, _, _, rfl, rfl, (by show (0 : Int) < (Int.gcd n d : Nat); omega), ?_⟩
      refine ⟨_, rfl, e, CE, dx, _, _, rfl, he, T.clE, T.eBelow, fE_below n d false, _, rfl, _, _, rfl, rfl, (by show (0 : Int) < (Int.gcd n d : Nat); omega), ?_⟩
      exact ⟨(by show 3 ≤ sizeLine; decide), fin⟩
end
end Sv

set_option Elab.async false
set_option maxRecDepth 100000
set_option maxHeartbeats 2000000
namespace Sv
open PySem PySem.Spec PyProof.Rows L2 Hb
open PySem.W (Codec)
open TQ (Sn Rep BB swp wpg lies rawOf)
section
variable {P : Program} {w : World} {K : PySem.W.Frag} {mg : Str → Option Value} {base : Heap} {CE CP CS CN CH : Addr}
theorem _root_.TQ.Rep.b1 {S : Sn} {r : Re04.Range} (h : Rep S r) : Bd S.ln := bd_of h.sln
theorem _root_.TQ.Rep.b2 {S : Sn} {r : Re04.Range} (h : Rep S r) : Bd S.ld := bd_of h.sld
theorem _root_.TQ.Rep.b3 {S : Sn} {r : Re04.Range} (h : Rep S r) : Bd S.gn := bd_of h.sgn
theorem _root_.TQ.Rep.b4 {S : Sn} {r : Re04.Range} (h : Rep S r) : Bd S.gd := bd_of h.sgd
theorem _root_.TQ.Rep.bf {S : Sn} {r : Re04.Range} (h : Rep S r) : Bd r.lo.floor := by
  rw [h.floor]
  exact Nat.lt_of_lt_of_le (TQ.floor_size h.ld h.sln) (Nat.pow_le_pow_right (by omega) (by omega))
theorem bd1 : Bd 1 := bd_small (by decide)
theorem dec_int (a : Int) : decide (V.int a = V.non) = false := decide_eq_false (by intro q; cases q)
/-! ### shared_terms -/
def spShared (CE CP : Addr) : Sp := fun vs H Q _ => ∃ (p : Addr) (S : Sn) (r : Re04.Range), vs = [.ref p] ∧ SpanAt CE CP H p S ∧ Rep S r ∧ r.sure.terms.length ≤ 1000000 ∧ NewInts H r.sure.terms Q
def LpShared (CE CP : Addr) (H : Hp) (p : Addr) (r0 : Re04.Range) (m : Nat) (σ : L2.St) (H' : Hp) : Prop := ∃ (q : Addr) (S : Sn) (r : Re04.Range) (out : List Int), m = (S.ld + S.gd).toNat ∧ σ = [some (.ref q), some (.ref p), some (optI (swp S 1))] ∧ SpanAt CE CP H' q S ∧ Rep S r ∧ r.lo ≠ r.hi ∧
  Same H H' ∧ H' p = some (.lst (out.map V.int)) ∧ out ++ r.sure.terms = r0.sure.terms
theorem sc_shared_terms : FnScope ["span", "terms", "part"] ["span"] (defScope s_shared_terms) := ⟨rfl, rfl, rfl, by decide +kernel, rfl, by decide +kernel, by decide +kernel⟩
theorem ok_shared {f : Addr} {fd : FuncData} (F : Fun K "shared_terms" "shared_terms" s_shared_terms f fd) (T : Txt K mg CE CP CS CN CH) (D_is_alone : Has P w K mg base "is_alone" 2 ["span"] (spAlone CE CP)) (D_terms_of_fraction : Has P w K mg base "terms_of_fraction" 33 ["above", "below"] spTof)
    (D_shared_whole_part : Has P w K mg base "shared_whole_part" 34 ["span", "times"] (spSwp CE CP)) (I_Span : HasC P w K mg base "Span" CP 1 ["self", "least", "greatest"] (spInitP CP)) (D_turned : Has P w K mg base "turned" 3 ["end", "part"] (spTurned CE)) :
    FnOk P w K mg base CX0 35 f fd ["span"] (spShared CE CP) := by
  refine F.ok sc_shared_terms (fun vs H Q E h => ?_) (fun cdv A outer s H vs Q E hr h => ?_)
  · obtain ⟨p, S, r, rfl, _⟩ := h
    rfl
  · obtain ⟨p0, S0, r0, rfl, hS, hR, hl, k⟩ := h
    refine ⟨_, (pss_cons (ps_if (pt_val (pe_own D_is_alone (hr.mono (by decide)) rfl (pa_cons (pv 0) pa_nil)))
    (pss_one (ps_ret (pe_own D_terms_of_fraction (hr.mono (by decide)) rfl (pa_cons (pe_fld (pe_fld (pv 0) rfl) rfl) (pa_cons (pe_fld (pe_fld (pv 0) rfl) rfl) pa_nil)))))
    pss_nil)
   (pss_cons (ps_set (i := 1) sc_shared_terms.nd rfl (Or.inl rfl) (pe_lst pa_nil))
   (pss_cons (ps_set (i := 2) sc_shared_terms.nd rfl (Or.inl rfl) (pe_own D_shared_whole_part (hr.mono (by decide)) rfl (pa_cons (pv 0) (pa_cons pe_int pa_nil))))
   (pss_cons (ps_while PassesOwn.never (pt_cmpR op_notN (pv 2) pe_non (nomark _))
    (pss_cons (ps_expr (pe_bm PySem.F.plainAttrs_list PySem.F.slot_list_append PySem.F.type_list_append mt_append (pv 1) (pa_cons (pv 2) pa_nil)))
   (pss_cons (ps_if (pt_cmpR op_eq (pe_fld (pe_fld (pv 0) rfl) rfl) (pe_op op_mulW (pv 2) (pe_fld (pe_fld (pv 0) rfl) rfl)) (nomark _))
    (pss_one (ps_ret (pv 1)))
    pss_nil)
   (pss_cons (ps_set (i := 0) sc_shared_terms.nd rfl (Or.inl rfl) (pe_ownC I_Span (hr.mono (by decide)) rfl (pa_cons (pe_own D_turned (hr.mono (by decide)) rfl (pa_cons (pe_fld (pv 0) rfl) (pa_cons (pv 2) pa_nil))) (pa_cons (pe_own D_turned (hr.mono (by decide)) rfl (pa_cons (pe_fld (pv 0) rfl) (pa_cons (pv 2) pa_nil))) pa_nil))))
   (pss_one (ps_set (i := 2) sc_shared_terms.nd rfl (Or.inl rfl) (pe_own D_shared_whole_part (hr.mono (by decide)) rfl (pa_cons (pv 0) (pa_cons pe_int pa_nil)))))))))
   (pss_one (ps_ret (pv 1))))))), ?_⟩
    refine ⟨_, rfl, p0, S0, rfl, hS, hR.b1, hR.b2, hR.b3, hR.b4, _, rfl, ?_⟩
    by_cases c : r0.lo = r0.hi
    · rw [decide_eq_true (hR.alone.mpr c)]
      refine iteT ?_
      obtain ⟨dx, a, b, hp, ⟨da, ha⟩, hb⟩ := hS
      rw [TQ.sure_one c] at k hl
      refine ⟨_, rfl, p0, CP, dx, _, _, rfl, hp, T.clP, T.pLeast, fP_least a b, a, CE, da, _, _, rfl, ha, T.clE, T.eAbove, fE_above _ _ _, ?_⟩
      refine ⟨_, rfl, p0, CP, dx, _, _, rfl, hp, T.clP, T.pLeast, fP_least a b, a, CE, da, _, _, rfl, ha, T.clE, T.eBelow, fE_below _ _ _, ?_⟩
      exact ⟨_, _, r0.lo, rfl, hR.ok.lo, hR.lo, hR.ld, hl, k⟩
    · rw [decide_eq_false fun z => c (hR.alone.mp z)]
      refine iteF ?_
      refine ⟨Nat.zero_le _, fun p np => ?_⟩
      have hS1 := hS.same (same_upd np (o := .lst []))
      refine ⟨_, rfl, p0, S0, 1, rfl, hS1, hR.ld, hR.gd, hR.b1, hR.b3, bd1, ?_⟩
      refine ⟨LpShared CE CP H p r0, ⟨_, p0, S0, r0, [], rfl, rfl, hS1, hR, c, same_upd np, upd_same, rfl⟩, ?_⟩
      rintro m σ H' ⟨q, S, r, out, rfl, rfl, hq, rep, ne, sH, hp, ex⟩
      rw [rep.swp1 ne]
      have len : out.length + r.sure.terms.length ≤ 1000000 := by rw [← ex, List.length_append] at hl; exact hl
      have len2 : out.length < sizeLine := Nat.lt_of_le_of_lt (show out.length ≤ 1000000 by omega) (by decide)
      by_cases sf : Re04.sameFloor r = true
      · rw [if_pos sf]
        refine ⟨_, rfl, rfl, _, rfl, ?_⟩
        rw [show optI (some r.lo.floor) = V.int r.lo.floor from rfl, dec_int]
        refine iteT ?_
        refine ⟨fun σ2 H2 => ∃ m', m' < (S.ld + S.gd).toNat ∧ LpShared CE CP H p r0 m' σ2 H2, fun _ _ z => z, ?_⟩
        -- terms.append(part)
        refine ⟨_, rfl, .inl ⟨rfl, _, SqL.of hp⟩, _, rfl, p, _, _, rfl, rfl, hp, ?_, ?_⟩
        · rw [List.length_map]
          exact len2
        have e1 : out.map V.int ++ [V.int r.lo.floor] = (out ++ [r.lo.floor]).map V.int := by simp
        rw [e1]
        obtain ⟨dx, a, b, hq, ⟨da, ha⟩, ⟨db, hb⟩⟩ := hq
        have nq : q ≠ p := ne_of hq hp (by intro z; cases z)
        have na : a ≠ p := ne_of ha hp (by intro z; cases z)
        have nb : b ≠ p := ne_of hb hp (by intro z; cases z)
        have hq' : upd H' p (.lst ((out ++ [r.lo.floor]).map V.int)) q = some (.ins CP dx (fP a b)) := by rw [upd_ne nq]; exact hq
        have ha' : upd H' p (.lst ((out ++ [r.lo.floor]).map V.int)) a = some (.ins CE da (fE S.ln S.ld S.lt)) := by rw [upd_ne na]; exact ha
        have hb' : upd H' p (.lst ((out ++ [r.lo.floor]).map V.int)) b = some (.ins CE db (fE S.gn S.gd S.gt)) := by rw [upd_ne nb]; exact hb
        have sH' : Same H (upd H' p (.lst ((out ++ [r.lo.floor]).map V.int))) := same_put sH np
        have hp' : upd H' p (.lst ((out ++ [r.lo.floor]).map V.int)) p = some (.lst ((out ++ [r.lo.floor]).map V.int)) := upd_same
        generalize upd H' p (.lst ((out ++ [r.lo.floor]).map V.int)) = H1 at *
        -- the test
        refine ⟨_, rfl, q, CP, dx, _, _, rfl, hq', T.clP, T.pLeast, fP_least a b, a, CE, da, _, _, rfl, ha', T.clE, T.eAbove, fE_above _ _ _, ?_⟩
        refine ⟨_, rfl, _, rfl, q, CP, dx, _, _, rfl, hq', T.clP, T.pLeast, fP_least a b, a, CE, da, _, _, rfl, ha', T.clE, T.eBelow, fE_below _ _ _, _, _, rfl, rfl, rep.bf.mul rep.b2, rfl, _, rfl, ?_⟩
        rw [decI]
        by_cases c2 : r.lo.n - r.lo.floor * r.lo.d = 0
        · rw [decide_eq_true (rep.whole.mpr c2)]
          refine iteT ⟨_, rfl, k H1 p sH' np ?_⟩
          rw [hp', ← ex, TQ.sure_last ne sf c2]
        · rw [decide_eq_false fun z => c2 (rep.whole.mp z)]
          refine iteF ?_
          -- span = Span(turned(span.greatest, part), turned(span.least, part))
          refine ⟨_, rfl, q, CP, dx, _, _, rfl, hq', T.clP, T.pGreatest, fP_greatest a b, _, rfl, b, _, _, _, _, rfl, ⟨db, hb'⟩, rep.bf, rep.b4, fun H2 x s2 hx => ?_⟩
          refine ⟨_, rfl, q, CP, dx, _, _, rfl, s2 _ _ hq', T.clP, T.pLeast, fP_least a b, _, rfl, a, _, _, _, _, rfl, ⟨da, s2 _ _ ha'⟩, rep.bf, rep.b2, fun H3 y s3 hy => ?_⟩
          intro z dz nz ndz nez
          refine ⟨z, dz, x, y, rfl, upd_same, fun H4 hz kp => ⟨rfl, ?_⟩⟩
          have s4 : Same H3 H4 := Same.made nz ndz kp
          obtain ⟨rep', lt'⟩ := rep.nxt ne sf c2
          have hz' : SpanAt CE CP H4 z ⟨S.gd, S.gn - r.lo.floor * S.gd, S.gt, S.ld, S.ln - r.lo.floor * S.ld, S.lt⟩ := ⟨dz, x, y, hz, (hx.same s3).same s4, hy.same s4⟩
          refine ⟨_, rfl, z, _, 1, rfl, hz', rep'.ld, rep'.gd, rep'.b1, rep'.b3, bd1, ?_⟩
          have l1 := rep'.ld
          have l2 := rep'.gd
          refine ⟨_, ?_, z, _, TQ.nxt r, out ++ [r.lo.floor], rfl, rfl, hz', rep', TQ.nxt_ne rep.ok ne c2, ((sH'.trans s2).trans s3).trans s4, s4 _ _ (s3 _ _ (s2 _ _ hp')), ?_⟩
          · show (S.gn - r.lo.floor * S.gd + (S.ln - r.lo.floor * S.ld)).toNat < _
            have l1 : 0 < S.gn - r.lo.floor * S.gd := l1
            have l2 : 0 < S.ln - r.lo.floor * S.ld := l2
            omega
          · rw [← ex, TQ.sure_more rep.ok ne sf c2, List.append_assoc]
            rfl
      · rw [if_neg sf]
        refine ⟨_, rfl, rfl, _, rfl, ?_⟩
        rw [show optI none = V.non from rfl, decide_eq_true rfl]
        refine iteF ⟨_, rfl, k H' p sH np ?_⟩
        rw [hp, ← ex, TQ.sure_none ne (by simpa using sf), List.append_nil]
end
end Sv

set_option Elab.async false
set_option maxRecDepth 100000
set_option maxHeartbeats 2000000
namespace Sv
open PySem PySem.Spec PyProof.Rows L2 Hb
open PySem.W (Codec)
open Re04 (Item Known)
open TQ (Sn Rep BB swp wpg lies rawOf CanE Tail RepO sureOf)
section
variable {P : Program} {w : World} {K : PySem.W.Frag} {mg : Str → Option Value} {base : Heap} {CE CP CS CN CH : Addr}
/-! ### a new stream -/
def spInitS (CS : Addr) : Sp := fun vs H Q _ => ∃ (p dx t : Addr) (e : Bool), vs = [.ref p, .ref t, .bl e] ∧ H p = some (.ins CS dx []) ∧
  ∀ (H' : Hp), H' p = some (.ins CS dx (fS t e)) → (∀ b o, H b = some o → b ≠ p → H' b = some o) → Q .non H'
theorem sc_Stream_init : FnScope ["self", "terms", "ended"] ["self", "terms", "ended"] (defScope s_Stream_init) := ⟨rfl, rfl, rfl, by decide +kernel, rfl, by decide +kernel, by decide +kernel⟩
theorem ok_initS {f : Addr} {fd : FuncData} (F : Fun K "__init__" "Stream.__init__" s_Stream_init f fd) (T : Txt K mg CE CP CS CN CH) : FnOk P w K mg base CX0 1 f fd ["self", "terms", "ended"] (spInitS CS) := by
  refine F.ok sc_Stream_init (fun vs H Q E h => ?_) (fun cdv A outer s H vs Q E hr h => ?_)
  · obtain ⟨p, dx, t, e, rfl, _⟩ := h
    rfl
  · obtain ⟨p, dx, t, e, rfl, hp, k⟩ := h
    refine ⟨_, (pss_cons (ps_fld (pv 0) (pv 1) rfl)
   (pss_one (ps_fld (pv 0) (pv 2) rfl))), ?_⟩
    refine ⟨_, rfl, _, rfl, p, CS, dx, [], rfl, hp, T.clS, T.sTerms, (by show 0 < 1000; decide), ?_⟩
    refine ⟨_, rfl, _, rfl, p, CS, dx, _, rfl, upd_same, T.clS, T.sEnded, (by show 1 < 1000; decide), ?_⟩
    refine k _ ?_ ?_
    · rw [upd_same]
      exact congrArg (fun q => some (HO.ins CS dx q)) (fS_new t e)
    · intro b o e hb
      rw [upd_ne hb, upd_ne hb]
      exact e
/-! ### end_behind -/
theorem cut_init (init : List Int) (y : Int) : cutV ((init ++ [y]).map V.int) none (some (-1)) = init.map V.int := by
  unfold cutV
  rw [HT.sIx_none]
  have e : HT.sIx ((init ++ [y]).map V.int).length ((init ++ [y]).map V.int).length (some (-1)) = init.length := by
    unfold HT.sIx
    simp
    omega
  rw [e]
  simp
def spBehind (K : PySem.W.Frag) (CE : Addr) : Sp := fun vs H Q _ => ∃ (t : Addr) (init : List Int) (y z : Int) (b : Bool) (x : Re04.Q), vs = [.ref t, .int z, .bl b] ∧ SqL K H t ((init ++ [y]).map V.int) ∧ Tail (init ++ [z]) ∧ Re04.ofTerms (init ++ [z]) = some x ∧ TQ.Sz BB x ∧
  ∀ (H' : Hp) (e : Addr), Same H H' → EndAt CE H' e x.n x.d b → Q (.ref e) H'
def LpBehind (H : Hp) (t : Addr) (init : List Int) (z : Int) (b : Bool) (i : Nat) (σ : L2.St) (H' : Hp) : Prop := ∃ (pre suf : List Int) (y : Re04.Q) (v5 v6 : Option V), init = pre ++ suf ∧ suf.length = i ∧ Re04.ofTerms (suf ++ [z]) = some y ∧
  σ = [some (.ref t), some (.int z), some (.bl b), some (.int y.n), some (.int y.d), v5, v6] ∧ H' = H
theorem sc_end_behind : FnScope ["terms", "last", "taken", "above", "below", "term", "front"] ["terms", "last", "taken"] (defScope s_end_behind) := ⟨rfl, rfl, rfl, by decide +kernel, rfl, by decide +kernel, by decide +kernel⟩
theorem ok_behind {f : Addr} {fd : FuncData} (F : Fun K "end_behind" "end_behind" s_end_behind f fd) (T : Txt K mg CE CP CS CN CH) (I_End : HasC P w K mg base "End" CE 1 ["self", "above", "below", "taken"] (spInitE CE)) : FnOk P w K mg base CX0 3 f fd ["terms", "last", "taken"] (spBehind K CE) := by
  refine F.ok sc_end_behind (fun vs H Q E h => ?_) (fun cdv A outer s H vs Q E hr h => ?_)
  · obtain ⟨t, init, y, z, b, x, rfl, _⟩ := h
    rfl
  · obtain ⟨t, init, y, z, b, x, rfl, hS, ht, ex, sz, k⟩ := h
    refine ⟨_, (pss_cons (ps_set (i := 3) sc_end_behind.nd rfl (Or.inl rfl) (pv 1))
   (pss_cons (ps_set (i := 4) sc_end_behind.nd rfl (Or.inl rfl) pe_int)
   (pss_cons (ps_for PassesOwn.never rfl (pi_reversed (by rfl) T.n_reversed (pa_cons (pe_slice sl_list (pv 0) po_none (po_some (pe_un un_neg pe_int))) pa_nil)) (pg_name (i := 5) sc_end_behind.nd rfl (Or.inl rfl))
    (pss_cons (ps_set (i := 6) sc_end_behind.nd rfl (Or.inl rfl) (pe_op op_add (pe_op op_mulW (pv 5) (pv 3)) (pv 4)))
   (pss_cons (ps_set (i := 4) sc_end_behind.nd rfl (Or.inl rfl) (pv 3))
   (pss_one (ps_set (i := 3) sc_end_behind.nd rfl (Or.inl rfl) (pv 6))))))
   (pss_one (ps_ret (pe_ownC I_End (hr.mono (by decide)) rfl (pa_cons (pv 3) (pa_cons (pv 4) (pa_cons (pv 2) pa_nil))))))))), ?_⟩
    have big := TQ.ofTerms_abs ht ex
    refine ⟨_, rfl, ?_⟩
    refine ⟨_, rfl, _, rfl, _, rfl, t, _, rfl, hS, fun p np => ?_⟩
    rw [cut_init]
    have sp : Same H (upd H p (.lst (init.map V.int))) := same_upd np
    have hp : upd H p (.lst (init.map V.int)) p = some (.lst (init.map V.int)) := upd_same
    generalize upd H p (.lst (init.map V.int)) = H1 at *
    refine ⟨p, init.map V.int, rfl, SqL.of hp, for_it (walk_rev (K := K) (a := p) (xs := init.map V.int)) (LpBehind H1 t init z b) ⟨init, [], ⟨z, 1⟩, none, none, by simp, rfl, rfl, rfl, rfl⟩ ?_ ?_ ?_⟩
    · rintro i σ H' _ ⟨pre, suf, y, v5, v6, _, _, _, _, rfl⟩
      exact SqL.of hp
    · rintro i v σ H' H'' hi ⟨pre, suf, y, v5, v6, rfl, rfl, ey, rfl, rfl⟩ ⟨rfl, hv⟩
      rw [List.length_map, List.length_append] at hi hv
      obtain ⟨pre, a, rfl⟩ : ∃ us b, pre = us ++ [b] := by
        rcases List.eq_nil_or_concat pre with e | ⟨us, b, e⟩
        · rw [e] at hi
          simp at hi
        · exact ⟨us, b, by simpa using e⟩
      have ev : v = .int a := by
        have e : (pre ++ [a]).length + suf.length - 1 - suf.length = pre.length := by
          rw [List.length_append, List.length_singleton]
          omega
        rw [e, List.getElem?_map, List.append_assoc, List.getElem?_append_right (Nat.le_refl _), Nat.sub_self] at hv
        exact (Option.some.inj hv).symm
      subst ev
      have sl := TQ.suffix_le (pre ++ [a]) (suf ++ [z]) x y (by simp) (by simp) (by rw [← List.append_assoc]; exact ht) ey (by rw [← List.append_assoc]; exact ex)
      have ba : Bd a := by
        have := big a (by simp)
        have s1 := sz.n
        have s2 := sz.d
        have pw : 2 ^ (BB + 200) = 2 ^ BB * 2 ^ 200 := Nat.pow_add _ _ _
        have pw2 : 2 ^ BB * 2 ≤ 2 ^ BB * 2 ^ 200 := Nat.mul_le_mul_left _ (by decide)
        unfold Bd
        rw [pw]
        omega
      have by_ : Bd y.n := bd_of (by
        have := sl.2.2
        have := sl.2.1
        have s2 := sz.d
        omega)
      refine ⟨_, rfl, _, rfl, _, _, rfl, rfl, ba.mul by_, _, rfl, _, _, rfl, rfl, ?_⟩
      refine ⟨_, rfl, _, rfl, ?_⟩
      refine ⟨pre, a :: suf, ⟨a * y.n + y.d, y.n.toNat⟩, some (.int a), some (.int (a * y.n + y.d)), by simp, by simp, TQ.ofTerms_cons ey sl.1 sl.2.1, ?_, rfl⟩
      have e : ((y.n.toNat : Nat) : Int) = y.n := by
        have := sl.2.1
        omega
      show _ = [some (V.ref t), some (V.int z), some (V.bl b), some (V.int (a * y.n + y.d)), some (V.int ((y.n.toNat : Nat) : Int)), some (V.int a), some (V.int (a * y.n + y.d))]
      rw [e]
      rfl
    · rintro σ H' ⟨pre, suf, y, v5, v6, e1, e2, ey, rfl, rfl⟩
      have e0 : pre = [] := by
        have := congrArg List.length e1
        rw [List.length_append, e2, List.length_map] at this
        exact List.length_eq_zero_iff.mp (by omega)
      subst e0
      have e1 : init = suf := e1
      subst e1
      have ey : x = y := Option.some.inj (ex.symm.trans ey)
      subst ey
      refine ⟨_, rfl, _, rfl, _, rfl, ?_⟩
      intro q dq nq ndq ne
      exact ⟨q, dq, _, _, _, rfl, upd_same, fun H2 hq kp => ⟨rfl, k H2 q (sp.trans (Same.made nq ndq kp)) ⟨dq, hq⟩⟩⟩
end
end Sv

set_option Elab.async false
set_option maxRecDepth 100000
set_option maxHeartbeats 2000000
namespace Sv
open PySem PySem.Spec PyProof.Rows L2 Hb
open PySem.W (Codec)
open Re04 (Item Known)
open TQ (Sn Rep BB swp wpg lies rawOf CanE Tail RepO sureOf)
theorem canE_may {ts : List Int} (ne : ts ≠ []) : (decide (ts.length = 1) || ts.getLastD 0 != 1) = canE ts := by
  unfold canE
  rw [decide_eq_false ne]
  have hl : 0 < ts.length := List.length_pos_iff.mpr ne
  by_cases c : ts.length = 1
  · rw [decide_eq_true c, decide_eq_false (by omega)]
    rfl
  · rw [decide_eq_false c, decide_eq_true (show 2 ≤ ts.length by omega)]
    rfl
theorem canE_of {ts : List Int} (h : CanE ts) : canE ts = true := by
  cases e : canE ts with
  | true => rfl
  | false =>
    unfold canE at e
    simp only [Bool.not_eq_false', Bool.or_eq_true, Bool.and_eq_true, decide_eq_true_eq] at e
    exact absurd e h
/-- what is known of a stream is as it should be -/
structure KS (k : Known) : Prop where
  tail : Tail k.terms
  can : k.ended = true → CanE k.terms
  own : ∀ r, k.range = some r → TQ.Rg BB r
section
variable {P : Program} {w : World} {K : PySem.W.Frag} {mg : Str → Option Value} {base : Heap} {CE CP CS CN CH : Addr}
def spStrSpan (CE CP CS : Addr) : Sp := fun vs H Q _ => ∃ (a t dx : Addr) (k : Known), vs = [.ref a] ∧ H a = some (.ins CS dx (fS t k.ended)) ∧ H t = some (.lst (k.terms.map V.int)) ∧ KS k ∧ ∀ (H' : Hp) (v : V), Same H H' → OptAt CE CP H' v (k.range.map rawOf) → Q v H'
theorem sc_stream_span : FnScope ["stream", "terms", "near", "far"] ["stream"] (defScope s_stream_span) := ⟨rfl, rfl, rfl, by decide +kernel, rfl, by decide +kernel, by decide +kernel⟩
theorem ok_strspan {f : Addr} {fd : FuncData} (F : Fun K "stream_span" "stream_span" s_stream_span f fd) (T : Txt K mg CE CP CS CN CH) (D_end_behind : Has P w K mg base "end_behind" 3 ["terms", "last", "taken"] (spBehind K CE)) (D_can_end : Has P w K mg base "can_end" 1 ["terms"] (spCan K)) (I_Span : HasC P w K mg base "Span" CP 1 ["self", "least", "greatest"] (spInitP CP)) :
    FnOk P w K mg base CX0 4 f fd ["stream"] (spStrSpan CE CP CS) := by
  refine F.ok sc_stream_span (fun vs H Q E h => ?_) (fun cdv A outer s H vs Q E hr h => ?_)
  · obtain ⟨a, t, dx, k, rfl, _⟩ := h
    rfl
  · obtain ⟨a, t, dx, kn, rfl, ha, ht, ks, k⟩ := h
    refine ⟨_, (pss_cons (ps_set (i := 1) sc_stream_span.nd rfl (Or.inl rfl) (pe_fld (pv 0) rfl))
   (pss_cons (ps_if (pt_cmpR op_eq (pe_callB call_len_seq (by rfl) T.n_len PySem.boot_len (pa_cons (pv 1) pa_nil)) pe_int (nomark _))
    (pss_one (ps_ret pe_non))
    pss_nil)
   (pss_cons (ps_set (i := 2) sc_stream_span.nd rfl (Or.inl rfl) (pe_own D_end_behind (hr.mono (by decide)) rfl (pa_cons (pv 1) (pa_cons (pe_ix ix_list (pv 1) (pe_un un_neg pe_int) (fun _ _ => rfl)) (pa_cons (pe_own D_can_end (hr.mono (by decide)) rfl (pa_cons (pv 1) pa_nil)) pa_nil)))))
   (pss_cons (ps_if (pt_val (pe_fld (pv 0) rfl))
    (pss_one (ps_ret (pe_ownC I_Span (hr.mono (by decide)) rfl (pa_cons (pv 2) (pa_cons (pv 2) pa_nil)))))
    pss_nil)
   (pss_cons (ps_set (i := 3) sc_stream_span.nd rfl (Or.inl rfl) (pe_own D_end_behind (hr.mono (by decide)) rfl (pa_cons (pv 1) (pa_cons (pe_op op_add (pe_ix ix_list (pv 1) (pe_un un_neg pe_int) (fun _ _ => rfl)) pe_int) (pa_cons pe_bl pa_nil)))))
   (pss_cons (ps_if (pt_cmpR op_eq (pe_op op_modN (pe_callB call_len_seq (by rfl) T.n_len PySem.boot_len (pa_cons (pv 1) pa_nil)) pe_int) pe_int (nomark _))
    (pss_one (ps_ret (pe_ownC I_Span (hr.mono (by decide)) rfl (pa_cons (pv 2) (pa_cons (pv 3) pa_nil)))))
    pss_nil)
   (pss_one (ps_ret (pe_ownC I_Span (hr.mono (by decide)) rfl (pa_cons (pv 3) (pa_cons (pv 2) pa_nil))))))))))), ?_⟩
    refine ⟨_, rfl, a, CS, dx, _, _, rfl, ha, T.clS, T.sTerms, fS_terms t kn.ended, ?_⟩
    refine ⟨_, rfl, t, _, rfl, .inl (SqL.of ht), rfl, _, rfl, ?_⟩
    rw [decI, List.length_map]
    by_cases c : kn.terms = []
    · rw [c, decide_eq_true (show (([] : List Int).length : Int) = 0 from rfl)]
      refine iteT (k H .non (Same.refl H) ?_)
      have e : kn.range = none := by
        unfold Re04.Known.range
        rw [c]
        rfl
      rw [e]
      rfl
    · have lp : 0 < kn.terms.length := List.length_pos_iff.mpr c
      rw [decide_eq_false (show ¬ (kn.terms.length : Int) = 0 by omega)]
      refine iteF ?_
      obtain ⟨init, y, et⟩ : ∃ us b, kn.terms = us ++ [b] := by
        rcases List.eq_nil_or_concat kn.terms with e | ⟨us, b, e⟩
        · exact absurd e c
        · exact ⟨us, b, by simpa using e⟩
      obtain ⟨x, ex, rx⟩ := TQ.ofTerms_ok kn.terms c ks.tail
      obtain ⟨z, ez, rz⟩ := TQ.ofTerms_ok (Re04.more kn.terms) (TQ.more_ne c) (TQ.more_tail ks.tail)
      have er := TQ.range_some ex ez
      rw [canE_may c, (TQ.more_lt c ks.tail ex ez).1] at er
      have rg := ks.own _ er
      have at1 : atI (kn.terms.map V.int) (-1) = some (.int y) := by
        rw [et, List.map_append]
        exact atI_last _ _
      have hS : SqL K H t ((init ++ [y]).map V.int) := by
        rw [← et]
        exact SqL.of ht
      have sx : TQ.Sz BB x := by
        by_cases en : kn.ended = true
        · rw [if_pos en] at rg
          exact rg.lo
        · rw [if_neg en] at rg
          by_cases o : decide (kn.terms.length % 2 = 1) = true
          · rw [if_pos o] at rg
            exact rg.lo
          · rw [if_neg o] at rg
            exact rg.hi
      -- near
      refine ⟨_, rfl, _, rfl, 1, rfl, t, _, -1, V.int y, rfl, rfl, SqL.of ht, at1, _, rfl, t, kn.terms, rfl, SqL.of ht, ?_⟩
      refine ⟨t, init, y, y, canE kn.terms, x, rfl, hS, by rw [← et]; exact ks.tail, by rw [← et]; exact ex, sx, fun H1 e1 s1 he1 => ?_⟩
      refine ⟨_, rfl, a, CS, dx, _, _, rfl, s1 _ _ ha, T.clS, T.sEnded, fS_ended t kn.ended, _, rfl, ?_⟩
      by_cases en : kn.ended = true
      · rw [if_pos en] at er
        rw [en]
        refine iteT ⟨_, rfl, _, rfl, ?_⟩
        intro q dq nq ndq ne
        refine ⟨q, dq, e1, e1, rfl, upd_same, fun H2 hq kp => ⟨rfl, k H2 _ (s1.trans (Same.made nq ndq kp)) ?_⟩⟩
        rw [er]
        rw [canE_of (ks.can en)] at he1
        have he2 := he1.same (Same.made nq ndq kp)
        exact ⟨q, rfl, dq, e1, e1, hq, he2, he2⟩
      · rw [if_neg en] at er rg
        have en : kn.ended = false := by simpa using en
        rw [en]
        refine iteF ?_
        -- far
        have sz : TQ.Sz BB z := by
          by_cases o : decide (kn.terms.length % 2 = 1) = true
          · rw [if_pos o] at rg
            exact rg.hi
          · rw [if_neg o] at rg
            exact rg.lo
        have hm : Re04.more kn.terms = init ++ [y + 1] := by rw [et, TQ.more_snoc]
        refine ⟨_, rfl, _, rfl, 1, rfl, t, _, -1, V.int y, rfl, rfl, SqL.of (s1 _ _ ht), at1, _, _, rfl, rfl, ?_⟩
        refine ⟨t, init, y, y + 1, false, z, rfl, s1.seq hS, by rw [← hm]; exact TQ.more_tail ks.tail, by rw [← hm]; exact ez, sz, fun H2 e2 s2 he2 => ?_⟩
        refine ⟨_, rfl, t, _, rfl, .inl (SqL.of (s2 _ _ (s1 _ _ ht))), _, _, rfl, rfl, (by show (2 : Int) ≠ 0; decide), rfl, _, rfl, ?_⟩
        rw [decI, List.length_map]
        have em : ((kn.terms.length : Int).fmod 2 = 1) ↔ kn.terms.length % 2 = 1 := by
          rw [Int.fmod_eq_emod_of_nonneg _ (by omega)]
          omega
        have he1' := he1.same s2
        by_cases o : kn.terms.length % 2 = 1
        · rw [if_pos (decide_eq_true o)] at er
          rw [decide_eq_true (em.mpr o)]
          refine iteT ⟨_, rfl, _, rfl, ?_⟩
          intro q dq nq ndq ne
          refine ⟨q, dq, e1, e2, rfl, upd_same, fun H3 hq kp => ⟨rfl, k H3 _ ((s1.trans s2).trans (Same.made nq ndq kp)) ?_⟩⟩
          rw [er]
          have s3 := Same.made nq ndq kp
          exact ⟨q, rfl, dq, e1, e2, hq, he1'.same s3, he2.same s3⟩
        · rw [if_neg (fun z => o (of_decide_eq_true z))] at er
          rw [decide_eq_false (fun z => o (em.mp z))]
          refine iteF ⟨_, rfl, _, rfl, ?_⟩
          intro q dq nq ndq ne
          refine ⟨q, dq, e2, e1, rfl, upd_same, fun H3 hq kp => ⟨rfl, k H3 _ ((s1.trans s2).trans (Same.made nq ndq kp)) ?_⟩⟩
          rw [er]
          have s3 := Same.made nq ndq kp
          exact ⟨q, rfl, dq, e2, e1, hq, he2.same s3, he1'.same s3⟩
/-! ### sure_stream -/
def spSureStr (CE CP CS : Addr) : Sp := fun vs H Q _ => ∃ (v : V) (o : Option Sn) (q : Option Re04.Range), vs = [v] ∧ OptAt CE CP H v o ∧ RepO o q ∧
  ∀ (H' : Hp) (a t dx : Addr), Same H H' → H a = none → H t = none → H' a = some (.ins CS dx (fS t (sureOf q).ended)) → H' t = some (.lst ((sureOf q).terms.map V.int)) → Q (.ref a) H'
theorem sc_sure_stream : FnScope ["span"] ["span"] (defScope s_sure_stream) := ⟨rfl, rfl, rfl, by decide +kernel, rfl, by decide +kernel, by decide +kernel⟩
theorem ok_surestr {f : Addr} {fd : FuncData} (F : Fun K "sure_stream" "sure_stream" s_sure_stream f fd) (T : Txt K mg CE CP CS CN CH) (I_Stream : HasC P w K mg base "Stream" CS 1 ["self", "terms", "ended"] (spInitS CS)) (D_shared_terms : Has P w K mg base "shared_terms" 35 ["span"] (spShared CE CP)) (D_is_alone : Has P w K mg base "is_alone" 2 ["span"] (spAlone CE CP)) :
    FnOk P w K mg base CX0 36 f fd ["span"] (spSureStr CE CP CS) := by
  refine F.ok sc_sure_stream (fun vs H Q E h => ?_) (fun cdv A outer s H vs Q E hr h => ?_)
  · obtain ⟨v, o, q, rfl, _⟩ := h
    rfl
  · obtain ⟨v, o, q, rfl, hv, hr2, k⟩ := h
    refine ⟨_, (pss_cons (ps_if (pt_cmpR op_isN (pv 0) pe_non (nomark _))
    (pss_one (ps_ret (pe_ownC I_Stream (hr.mono (by decide)) rfl (pa_cons (pe_lst pa_nil) (pa_cons pe_bl pa_nil)))))
    pss_nil)
   (pss_one (ps_ret (pe_ownC I_Stream (hr.mono (by decide)) rfl (pa_cons (pe_own D_shared_terms (hr.mono (by decide)) rfl (pa_cons (pv 0) pa_nil)) (pa_cons (pe_own D_is_alone (hr.mono (by decide)) rfl (pa_cons (pv 0) pa_nil)) pa_nil)))))), ?_⟩
    match o, q, hv, hr2, k with
    | none, none, hv, _, k =>
      have hv : v = .non := hv
      subst hv
      refine ⟨_, rfl, rfl, _, rfl, ?_⟩
      rw [decide_eq_true rfl]
      refine iteT ⟨Nat.zero_le _, fun t nt => ?_⟩
      intro a da na nda ne
      have st : Same H (upd H t (.lst [])) := same_upd nt
      refine ⟨a, da, t, false, rfl, upd_same, fun H2 ha kp => ⟨rfl, ?_⟩⟩
      have s2 := Same.made na nda kp
      exact k H2 a t da (st.trans s2) (st.free na) nt ha (s2 _ _ upd_same)
    | some S, some r, hv, hr2, k =>
      obtain ⟨p, rfl, hp⟩ := hv
      obtain ⟨rep, len⟩ := hr2
      refine ⟨_, rfl, rfl, _, rfl, ?_⟩
      rw [decide_eq_false (show ¬ V.ref p = V.non by intro z; cases z)]
      refine iteF ?_
      refine ⟨_, rfl, p, S, r, rfl, hp, rep, len, fun H1 t s1 nt ht => ?_⟩
      refine ⟨_, rfl, p, S, rfl, hp.same s1, rep.b1, rep.b2, rep.b3, rep.b4, ?_⟩
      intro a da na nda ne
      refine ⟨a, da, t, _, rfl, upd_same, fun H2 ha kp => ⟨rfl, ?_⟩⟩
      have s2 := Same.made na nda kp
      have e : decide (S.ln * S.gd - S.gn * S.ld = 0) = (sureOf (some r)).ended := by
        show _ = r.sure.ended
        rw [TQ.sure_end rep.ok]
        exact decide_eq_decide.mpr rep.alone
      rw [e] at ha
      exact k H2 a t da (s1.trans s2) (s1.free na) nt ha (s2 _ _ ht)
    | none, some r, _, hr2, _ => exact hr2.elim
    | some S, none, _, hr2, _ => exact hr2.elim
end
end Sv

set_option Elab.async false
set_option maxRecDepth 100000
set_option maxHeartbeats 2000000
namespace Sv
open PySem PySem.Spec PyProof.Rows L2 Hb
open PySem.W (Codec)
open Re04 (Item Known)
open TQ (Sn Rep BB swp wpg lies rawOf CanE Tail RepO sureOf)
section
variable {P : Program} {w : World} {K : PySem.W.Frag} {mg : Str → Option Value} {base : Heap} {CE CP CS CN CH : Addr}
/-! ### corner_pairs, part_value -/
def spPairs (CP : Addr) : Sp := fun vs H Q _ => ∃ (px py dx dy xa xb ya yb : Addr), vs = [.ref px, .ref py] ∧ H px = some (.ins CP dx (fP xa xb)) ∧ H py = some (.ins CP dy (fP ya yb)) ∧
  ∀ (H' : Hp) (l t1 t2 t3 t4 : Addr), Same H H' → H' l = some (.lst [.ref t1, .ref t2, .ref t3, .ref t4]) → H' t1 = some (.tup [.ref xa, .ref ya]) → H' t2 = some (.tup [.ref xa, .ref yb]) → H' t3 = some (.tup [.ref xb, .ref ya]) → H' t4 = some (.tup [.ref xb, .ref yb]) → Q (.ref l) H'
theorem sc_corner_pairs : FnScope ["x", "y"] ["x", "y"] (defScope s_corner_pairs) := ⟨rfl, rfl, rfl, by decide +kernel, rfl, by decide +kernel, by decide +kernel⟩
theorem ok_pairs {f : Addr} {fd : FuncData} (F : Fun K "corner_pairs" "corner_pairs" s_corner_pairs f fd) (T : Txt K mg CE CP CS CN CH) : FnOk P w K mg base CX0 1 f fd ["x", "y"] (spPairs CP) := by
  refine F.ok sc_corner_pairs (fun vs H Q E h => ?_) (fun cdv A outer s H vs Q E hr h => ?_)
  · obtain ⟨px, py, dx, dy, xa, xb, ya, yb, rfl, _⟩ := h
    rfl
  · obtain ⟨px, py, dx, dy, xa, xb, ya, yb, rfl, hx, hy, k⟩ := h
    refine ⟨_, (pss_one (ps_ret (pe_lst (pa_cons (pe_tup (pa_cons (pe_fld (pv 0) rfl) (pa_cons (pe_fld (pv 1) rfl) pa_nil))) (pa_cons (pe_tup (pa_cons (pe_fld (pv 0) rfl) (pa_cons (pe_fld (pv 1) rfl) pa_nil))) (pa_cons (pe_tup (pa_cons (pe_fld (pv 0) rfl) (pa_cons (pe_fld (pv 1) rfl) pa_nil))) (pa_cons (pe_tup (pa_cons (pe_fld (pv 0) rfl) (pa_cons (pe_fld (pv 1) rfl) pa_nil))) pa_nil))))))), ?_⟩
    refine ⟨_, rfl, px, CP, dx, _, _, rfl, hx, T.clP, T.pLeast, fP_least xa xb, _, rfl, py, CP, dy, _, _, rfl, hy, T.clP, T.pLeast, fP_least ya yb, (by show 2 ≤ sizeLine; decide), fun t1 n1 => ?_⟩
    have s1 := same_upd n1 (o := .tup [.ref xa, .ref ya])
    have h1 : upd H t1 (.tup [.ref xa, .ref ya]) t1 = _ := upd_same
    generalize upd H t1 (.tup [.ref xa, .ref ya]) = H1 at *
    refine ⟨_, rfl, px, CP, dx, _, _, rfl, s1 _ _ hx, T.clP, T.pLeast, fP_least xa xb, _, rfl, py, CP, dy, _, _, rfl, s1 _ _ hy, T.clP, T.pGreatest, fP_greatest ya yb, (by show 2 ≤ sizeLine; decide), fun t2 n2 => ?_⟩
    have s2 := same_upd n2 (o := .tup [.ref xa, .ref yb])
    have h2 : upd H1 t2 (.tup [.ref xa, .ref yb]) t2 = _ := upd_same
    generalize upd H1 t2 (.tup [.ref xa, .ref yb]) = H2 at *
    have s12 := s1.trans s2
    refine ⟨_, rfl, px, CP, dx, _, _, rfl, s12 _ _ hx, T.clP, T.pGreatest, fP_greatest xa xb, _, rfl, py, CP, dy, _, _, rfl, s12 _ _ hy, T.clP, T.pLeast, fP_least ya yb, (by show 2 ≤ sizeLine; decide), fun t3 n3 => ?_⟩
    have s3 := same_upd n3 (o := .tup [.ref xb, .ref ya])
    have h3 : upd H2 t3 (.tup [.ref xb, .ref ya]) t3 = _ := upd_same
    generalize upd H2 t3 (.tup [.ref xb, .ref ya]) = H3 at *
    have s123 := s12.trans s3
    refine ⟨_, rfl, px, CP, dx, _, _, rfl, s123 _ _ hx, T.clP, T.pGreatest, fP_greatest xa xb, _, rfl, py, CP, dy, _, _, rfl, s123 _ _ hy, T.clP, T.pGreatest, fP_greatest ya yb, (by show 2 ≤ sizeLine; decide), fun t4 n4 => ?_⟩
    have s4 := same_upd n4 (o := .tup [.ref xb, .ref yb])
    have h4 : upd H3 t4 (.tup [.ref xb, .ref yb]) t4 = _ := upd_same
    generalize upd H3 t4 (.tup [.ref xb, .ref yb]) = H4 at *
    refine ⟨(by show 4 ≤ sizeLine; decide), fun l nl => ?_⟩
    have s5 := same_upd nl (o := .lst [.ref t1, .ref t2, .ref t3, .ref t4])
    exact k _ l t1 t2 t3 t4 ((s123.trans s4).trans s5) upd_same (s5 _ _ (s4 _ _ (s3 _ _ (s2 _ _ h1)))) (s5 _ _ (s4 _ _ (s3 _ _ h2))) (s5 _ _ (s4 _ _ h3)) (s5 _ _ h4)
theorem bd_prod {f x : Int} (hf : f.natAbs ≤ 1000) (hx : x.natAbs < 2 ^ BB) : Bd (f * x) := by
  have h : (f * x).natAbs < 2 ^ (10 + BB) := wide_lt (show f.natAbs < 2 ^ 10 by omega) hx
  exact Nat.lt_of_lt_of_le h (Nat.pow_le_pow_right (by omega) (by omega))
theorem bd_thou {f : Int} (hf : f.natAbs ≤ 1000) : Bd f := bd_small (Nat.lt_of_le_of_lt hf (by decide))
def spPart (K : PySem.W.Frag) (CE : Addr) : Sp := fun vs H Q _ => ∃ (a t ex ey : Addr) (f0 f1 f2 f3 xn xd yn yd : Int) (tx ty : Bool), vs = [.ref a, .ref t] ∧ SqT K H a [.int f0, .int f1, .int f2, .int f3] ∧ SqT K H t [.ref ex, .ref ey] ∧ EndAt CE H ex xn xd tx ∧ EndAt CE H ey yn yd ty ∧
  (f0.natAbs ≤ 1000 ∧ f1.natAbs ≤ 1000 ∧ f2.natAbs ≤ 1000 ∧ f3.natAbs ≤ 1000) ∧ (xn.natAbs < 2 ^ BB ∧ xd.natAbs < 2 ^ BB ∧ yn.natAbs < 2 ^ BB ∧ yd.natAbs < 2 ^ BB) ∧ Q (.int (TQ.pv f0 f1 f2 f3 xn xd yn yd)) H
theorem sc_part_value : FnScope ["factors", "pair", "x", "y", "both", "first", "second"] ["factors", "pair"] (defScope s_part_value) := ⟨rfl, rfl, rfl, by decide +kernel, rfl, by decide +kernel, by decide +kernel⟩
theorem ok_part {f : Addr} {fd : FuncData} (F : Fun K "part_value" "part_value" s_part_value f fd) (T : Txt K mg CE CP CS CN CH) : FnOk P w K mg base CX0 1 f fd ["factors", "pair"] (spPart K CE) := by
  refine F.ok sc_part_value (fun vs H Q E h => ?_) (fun cdv A outer s H vs Q E hr h => ?_)
  · obtain ⟨a, t, ex, ey, f0, f1, f2, f3, xn, xd, yn, yd, tx, ty, rfl, _⟩ := h
    rfl
  · obtain ⟨a, t, ex, ey, f0, f1, f2, f3, xn, xd, yn, yd, tx, ty, rfl, ha, ht, ⟨dx, hx⟩, ⟨dy, hy⟩, ⟨b0, b1, b2, b3⟩, ⟨c0, c1, c2, c3⟩, k⟩ := h
    refine ⟨_, (pss_cons (ps_set (i := 2) sc_part_value.nd rfl (Or.inl rfl) (pe_ix ix_tup (pv 1) pe_int (fun _ _ => rfl)))
   (pss_cons (ps_set (i := 3) sc_part_value.nd rfl (Or.inl rfl) (pe_ix ix_tup (pv 1) pe_int (fun _ _ => rfl)))
   (pss_cons (ps_set (i := 4) sc_part_value.nd rfl (Or.inl rfl) (pe_op op_mulW (pe_op op_mulW (pe_ix ix_tup (pv 0) pe_int (fun _ _ => rfl)) (pe_fld (pv 2) rfl)) (pe_fld (pv 3) rfl)))
   (pss_cons (ps_set (i := 5) sc_part_value.nd rfl (Or.inl rfl) (pe_op op_mulW (pe_op op_mulW (pe_ix ix_tup (pv 0) pe_int (fun _ _ => rfl)) (pe_fld (pv 2) rfl)) (pe_fld (pv 3) rfl)))
   (pss_cons (ps_set (i := 6) sc_part_value.nd rfl (Or.inl rfl) (pe_op op_mulW (pe_op op_mulW (pe_ix ix_tup (pv 0) pe_int (fun _ _ => rfl)) (pe_fld (pv 2) rfl)) (pe_fld (pv 3) rfl)))
   (pss_one (ps_ret (pe_op op_add (pe_op op_add (pe_op op_add (pv 4) (pv 5)) (pv 6)) (pe_op op_mulW (pe_op op_mulW (pe_ix ix_tup (pv 0) pe_int (fun _ _ => rfl)) (pe_fld (pv 2) rfl)) (pe_fld (pv 3) rfl)))))))))), ?_⟩
    refine ⟨_, rfl, t, _, _, .ref ex, rfl, rfl, ht, atI_nat (j := 0) rfl, ?_⟩
    refine ⟨_, rfl, t, _, _, .ref ey, rfl, rfl, ht, atI_nat (j := 1) rfl, ?_⟩
    refine ⟨_, rfl, a, _, _, .int f0, rfl, rfl, ha, atI_nat (j := 0) rfl, _, rfl, ex, CE, dx, _, _, rfl, hx, T.clE, T.eAbove, fE_above _ _ _, _, _, rfl, rfl, (bd_thou b0).mul (bd_of c0), _, rfl, ey, CE, dy, _, _, rfl, hy, T.clE, T.eAbove, fE_above _ _ _, _, _, rfl, rfl, (bd_prod b0 c0).mul (bd_of c2), ?_⟩
    refine ⟨_, rfl, a, _, _, .int f1, rfl, rfl, ha, atI_nat (j := 1) rfl, _, rfl, ex, CE, dx, _, _, rfl, hx, T.clE, T.eAbove, fE_above _ _ _, _, _, rfl, rfl, (bd_thou b1).mul (bd_of c0), _, rfl, ey, CE, dy, _, _, rfl, hy, T.clE, T.eBelow, fE_below _ _ _, _, _, rfl, rfl, (bd_prod b1 c0).mul (bd_of c3), ?_⟩
    refine ⟨_, rfl, a, _, _, .int f2, rfl, rfl, ha, atI_nat (j := 2) rfl, _, rfl, ex, CE, dx, _, _, rfl, hx, T.clE, T.eBelow, fE_below _ _ _, _, _, rfl, rfl, (bd_thou b2).mul (bd_of c1), _, rfl, ey, CE, dy, _, _, rfl, hy, T.clE, T.eAbove, fE_above _ _ _, _, _, rfl, rfl, (bd_prod b2 c1).mul (bd_of c2), ?_⟩
    refine ⟨_, rfl, _, rfl, _, _, rfl, rfl, _, rfl, _, _, rfl, rfl, ?_⟩
    exact ⟨_, rfl, a, _, _, .int f3, rfl, rfl, ha, atI_nat (j := 3) rfl, _, rfl, ex, CE, dx, _, _, rfl, hx, T.clE, T.eBelow, fE_below _ _ _, _, _, rfl, rfl, (bd_thou b3).mul (bd_of c1), _, rfl, ey, CE, dy, _, _, rfl, hy, T.clE, T.eBelow, fE_below _ _ _, _, _, rfl, rfl, (bd_prod b3 c1).mul (bd_of c3), _, _, rfl, rfl, k⟩
/-! ### had_along, may_be_had -/
def spHad (CE CP : Addr) : Sp := fun vs H Q _ => ∃ (e p : Addr) (n d : Int) (t a b : Bool) (S : Sn), vs = [.ref e, .ref p, .bl a, .bl b] ∧ EndAt CE H e n d t ∧ SpanAt CE CP H p S ∧ Q (.bl (TQ.had t S.lt S.gt a b)) H
theorem sc_had_along : FnScope ["end", "other", "at_least", "at_greatest"] ["end", "other", "at_least", "at_greatest"] (defScope s_had_along) := ⟨rfl, rfl, rfl, by decide +kernel, rfl, by decide +kernel, by decide +kernel⟩
theorem ok_had {f : Addr} {fd : FuncData} (F : Fun K "had_along" "had_along" s_had_along f fd) (T : Txt K mg CE CP CS CN CH) : FnOk P w K mg base CX0 1 f fd ["end", "other", "at_least", "at_greatest"] (spHad CE CP) := by
  refine F.ok sc_had_along (fun vs H Q E h => ?_) (fun cdv A outer s H vs Q E hr h => ?_)
  · obtain ⟨e, p, n, d, t, a, b, S, rfl, _⟩ := h
    rfl
  · obtain ⟨e, p, n, d, t, a, b, S, rfl, ⟨de, he⟩, ⟨dx, l, g, hp, ⟨dl, hl⟩, ⟨dg, hg⟩⟩, k⟩ := h
    refine ⟨_, (pss_cons (ps_if (pt_not (pt_val (pe_fld (pv 0) rfl)))
    (pss_one (ps_ret pe_bl))
    pss_nil)
   (pss_cons (ps_if (PW.pt (pw_and (pt_val (pv 2)) (pw_and1 (pt_val (pv 3)))))
    (pss_one (ps_ret pe_bl))
    pss_nil)
   (pss_one (ps_ret (pe_or (pe_and (pv 2) (pe_one (pe_fld (pe_fld (pv 1) rfl) rfl))) (pe_one (pe_and (pv 3) (pe_one (pe_fld (pe_fld (pv 1) rfl) rfl))))))))), ?_⟩
    refine ⟨_, rfl, e, CE, de, _, _, rfl, he, T.clE, T.eTaken, fE_taken n d t, _, rfl, ?_⟩
    cases t with
    | false => exact iteT k
    | true =>
      refine iteF ⟨_, rfl, _, rfl, ?_⟩
      cases a with
      | true =>
        refine iteT ⟨_, rfl, _, rfl, ?_⟩
        cases b with
        | true => exact iteT k
        | false =>
          refine iteF ⟨_, rfl, _, rfl, ?_⟩
          refine iteT ⟨_, rfl, p, CP, dx, _, _, rfl, hp, T.clP, T.pLeast, fP_least l g, l, CE, dl, _, _, rfl, hl, T.clE, T.eTaken, fE_taken _ _ _, _, rfl, ?_⟩
          cases hS : S.lt with
          | true =>
            rw [hS] at k
            exact iteT k
          | false =>
            rw [hS] at k
            exact iteF ⟨_, rfl, _, rfl, iteF k⟩
      | false =>
        refine iteF ⟨_, rfl, _, rfl, ?_⟩
        refine iteF ⟨_, rfl, ?_⟩
        refine iteF ⟨_, rfl, _, rfl, ?_⟩
        cases b with
        | true =>
          refine iteT ⟨_, rfl, p, CP, dx, _, _, rfl, hp, T.clP, T.pGreatest, fP_greatest l g, g, CE, dg, _, _, rfl, hg, T.clE, T.eTaken, fE_taken _ _ _, ?_⟩
          have e : TQ.had true S.lt S.gt false true = S.gt := by
            unfold TQ.had
            simp
          rw [e] at k
          exact k
        | false => exact iteF k
end
end Sv

set_option Elab.async false
set_option maxRecDepth 100000
set_option maxHeartbeats 2000000
namespace Sv
open PySem PySem.Spec PyProof.Rows L2 Hb
open PySem.W (Codec)
open Re04 (Item Known)
open TQ (Sn Rep BB swp wpg lies rawOf CanE Tail RepO sureOf)
/-- a list made item by item of a list -/
theorem lc_map {K : PySem.W.Frag} {a : Addr} {xs ys : List V} {g : TG} {te : TE} {vs : List Nat} {σ : L2.St} {H1 : Hp} {D : Addr} {Qd : Hp → Prop} (hlen : xs.length = ys.length) (hsz : ys.length < sizeLine) (hD : H1 D = none) (hS : SqL K H1 a xs)
    (hs : ∀ (i : Nat) (x y : V) (H : Hp) (R : VK), xs[i]? = some x → ys[i]? = some y → Same H1 H → (∀ H4, Same H H4 → R y H4) → g x (wipe σ vs) H fun σ2 H2 => wipe σ2 vs = wipe σ vs ∧ te σ2 H2 R) (hd : ∀ H, Same H1 H → H D = some (.lst ys) → Qd H) : ∃ W : Nat → Nat → Hp → Prop, (∃ m, W 0 m (upd H1 D (.lst []))) ∧ ∀ i m H, W i m H → ((Itl K a).stop i H ∧ Qd H) ∨ ((Itl K a).go i H ∧ ∃ Nx : Hp → Prop, (∀ H', Nx H' → ∃ m', m' < m ∧ W (i + 1) m' H') ∧ ∀ x H', (Itl K a).yld i H x H' → g x (wipe σ vs) H' fun σ2 H2 => wipe σ2 vs = wipe σ vs ∧ tYes σ2 H2 fun b H3 => if b = true then te σ2 H3 fun y H4 => ∃ acc, H4 D = some (.lst acc) ∧ acc.length < sizeLine ∧ Nx (upd H4 D (.lst (acc ++ [y]))) else Nx H3) := by
  refine lc_list (K := K) (a := a) (xs := xs) (fun i H => Same H1 H ∧ H D = some (.lst (ys.take i))) ⟨same_upd hD, upd_same⟩ (fun i H _ p => p.1.seq hS) ?_ ?_
  · rintro i x H hi ⟨s1, h1⟩
    have hlt : i < ys.length := by rw [← hlen]; exact (List.getElem?_eq_some_iff.mp hi).1
    refine hs i x ys[i] H _ hi (List.getElem?_eq_getElem hlt) s1 fun H4 s4 => ?_
    refine ⟨_, s4 _ _ h1, ?_, same_put (s1.trans s4) hD, ?_⟩
    · rw [List.length_take]
      omega
    · rw [upd_same, List.take_add_one, List.getElem?_eq_getElem hlt]
      rfl
  · rintro H ⟨s1, h1⟩
    rw [hlen, List.take_length] at h1
    exact hd H s1 h1
theorem map_get {ns : List Int} {i : Nat} {x : V} (h : (ns.map V.int)[i]? = some x) : ∃ n, ns[i]? = some n ∧ x = .int n := by
  rw [List.getElem?_map] at h
  cases e : ns[i]? with
  | none => rw [e] at h; cases h
  | some n => rw [e] at h; exact ⟨n, rfl, (Option.some.inj h).symm⟩
theorem map_getR {ns : List Addr} {i : Nat} {x : V} (h : (ns.map V.ref)[i]? = some x) : ∃ n, ns[i]? = some n ∧ x = .ref n := by
  rw [List.getElem?_map] at h
  cases e : ns[i]? with
  | none => rw [e] at h; cases h
  | some n => rw [e] at h; exact ⟨n, rfl, (Option.some.inj h).symm⟩
section
variable {P : Program} {w : World} {K : PySem.W.Frag} {mg : Str → Option Value} {base : Heap} {CE CP CS CN CH : Addr}
def spMbh (CE CP : Addr) : Sp := fun vs H Q _ => ∃ (px py l : Addr) (X Y : Sn) (a0 a1 a2 a3 : Bool), vs = [.ref px, .ref py, .ref l] ∧ SpanAt CE CP H px X ∧ SpanAt CE CP H py Y ∧ H l = some (.lst [.bl a0, .bl a1, .bl a2, .bl a3]) ∧ Q (.bl (TQ.mbh X.lt X.gt Y.lt Y.gt a0 a1 a2 a3)) H
theorem sc_may_be_had : FnScope ["x", "y", "at"] ["x", "y", "at"] (defScope s_may_be_had) := ⟨rfl, rfl, rfl, by decide +kernel, rfl, by decide +kernel, by decide +kernel⟩
theorem ok_mbh {f : Addr} {fd : FuncData} (F : Fun K "may_be_had" "may_be_had" s_may_be_had f fd) (T : Txt K mg CE CP CS CN CH) (D_had_along : Has P w K mg base "had_along" 1 ["end", "other", "at_least", "at_greatest"] (spHad CE CP)) : FnOk P w K mg base CX0 2 f fd ["x", "y", "at"] (spMbh CE CP) := by
  refine F.ok sc_may_be_had (fun vs H Q E h => ?_) (fun cdv A outer s H vs Q E hr h => ?_)
  · obtain ⟨px, py, l, X, Y, a0, a1, a2, a3, rfl, _⟩ := h
    rfl
  · obtain ⟨px, py, l, X, Y, a0, a1, a2, a3, rfl, hX, hY, hl, k⟩ := h
    refine ⟨_, (pss_cons (ps_if (pt_val (pe_callB (cr_all rfl) (by rfl) T.n_all (by decide +kernel) (pa_cons (pv 2) pa_nil)))
    (pss_one (ps_ret pe_bl))
    pss_nil)
   (pss_cons (ps_if (PW.pt (pw_or (pt_val (pe_own D_had_along (hr.mono (by decide)) rfl (pa_cons (pe_fld (pv 0) rfl) (pa_cons (pv 1) (pa_cons (pe_ix ix_list (pv 2) pe_int (fun _ _ => rfl)) (pa_cons (pe_ix ix_list (pv 2) pe_int (fun _ _ => rfl)) pa_nil)))))) (pw_or1 (pt_val (pe_own D_had_along (hr.mono (by decide)) rfl (pa_cons (pe_fld (pv 0) rfl) (pa_cons (pv 1) (pa_cons (pe_ix ix_list (pv 2) pe_int (fun _ _ => rfl)) (pa_cons (pe_ix ix_list (pv 2) pe_int (fun _ _ => rfl)) pa_nil)))))))))
    (pss_one (ps_ret pe_bl))
    pss_nil)
   (pss_one (ps_ret (pe_or (pe_own D_had_along (hr.mono (by decide)) rfl (pa_cons (pe_fld (pv 1) rfl) (pa_cons (pv 0) (pa_cons (pe_ix ix_list (pv 2) pe_int (fun _ _ => rfl)) (pa_cons (pe_ix ix_list (pv 2) pe_int (fun _ _ => rfl)) pa_nil))))) (pe_one (pe_own D_had_along (hr.mono (by decide)) rfl (pa_cons (pe_fld (pv 1) rfl) (pa_cons (pv 0) (pa_cons (pe_ix ix_list (pv 2) pe_int (fun _ _ => rfl)) (pa_cons (pe_ix ix_list (pv 2) pe_int (fun _ _ => rfl)) pa_nil))))))))))), ?_⟩
    obtain ⟨dx, xl, xg, hx, hxl, hxg⟩ := id hX
    obtain ⟨dy, yl, yg, hy, hyl, hyg⟩ := id hY
    refine ⟨_, rfl, l, [a0, a1, a2, a3], rfl, SqL.of hl, _, rfl, ?_⟩
    rw [show ([a0, a1, a2, a3] : List Bool).all id = (a0 && (a1 && (a2 && a3))) by simp]
    unfold TQ.mbh at k
    cases c : (a0 && (a1 && (a2 && a3))) with
    | true =>
      rw [c, Bool.true_or] at k
      exact iteT k
    | false =>
      rw [c, Bool.false_or] at k
      refine iteF ?_
      refine ⟨_, rfl, px, CP, dx, _, _, rfl, hx, T.clP, T.pLeast, fP_least _ _, _, rfl, _, rfl, l, _, _, .bl a0, rfl, rfl, SqL.of hl, atI_nat (j := 0) rfl, _, rfl, l, _, _, .bl a1, rfl, rfl, SqL.of hl, atI_nat (j := 1) rfl, ?_⟩
      refine ⟨xl, py, _, _, _, a0, a1, Y, rfl, hxl, hY, _, rfl, ?_⟩
      cases c1 : TQ.had X.lt Y.lt Y.gt a0 a1 with
      | true =>
        rw [c1, Bool.true_or, Bool.true_or] at k
        exact iteT k
      | false =>
        rw [c1, Bool.false_or] at k
        refine iteF ?_
        refine ⟨_, rfl, px, CP, dx, _, _, rfl, hx, T.clP, T.pGreatest, fP_greatest _ _, _, rfl, _, rfl, l, _, _, .bl a2, rfl, rfl, SqL.of hl, atI_nat (j := 2) rfl, _, rfl, l, _, _, .bl a3, rfl, rfl, SqL.of hl, atI_nat (j := 3) rfl, ?_⟩
        refine ⟨xg, py, _, _, _, a2, a3, Y, rfl, hxg, hY, _, rfl, ?_⟩
        cases c2 : TQ.had X.gt Y.lt Y.gt a2 a3 with
        | true =>
          rw [c2, Bool.true_or] at k
          exact iteT k
        | false =>
          rw [c2, Bool.false_or] at k
          refine iteF ?_
          refine ⟨_, rfl, py, CP, dy, _, _, rfl, hy, T.clP, T.pLeast, fP_least _ _, _, rfl, _, rfl, l, _, _, .bl a0, rfl, rfl, SqL.of hl, atI_nat (j := 0) rfl, _, rfl, l, _, _, .bl a2, rfl, rfl, SqL.of hl, atI_nat (j := 2) rfl, ?_⟩
          refine ⟨yl, px, _, _, _, a0, a2, X, rfl, hyl, hX, _, rfl, ?_⟩
          cases c3 : TQ.had Y.lt X.lt X.gt a0 a2 with
          | true =>
            rw [c3, Bool.true_or] at k
            exact iteT k
          | false =>
            rw [c3, Bool.false_or] at k
            refine iteF ?_
            refine ⟨_, rfl, py, CP, dy, _, _, rfl, hy, T.clP, T.pGreatest, fP_greatest _ _, _, rfl, _, rfl, l, _, _, .bl a1, rfl, rfl, SqL.of hl, atI_nat (j := 1) rfl, _, rfl, l, _, _, .bl a3, rfl, rfl, SqL.of hl, atI_nat (j := 3) rfl, ?_⟩
            exact ⟨yg, px, _, _, _, a1, a3, X, rfl, hyg, hX, k⟩
/-- four ends of corners in a list -/
structure CornersAt (CE : Addr) (H : Hp) (c : Addr) (es : List Addr) (ns ds : List Int) : Prop where
  lst : H c = some (.lst (es.map V.ref))
  le : es.length = 4
  ln : ns.length = 4
  ld : ds.length = 4
  at_ : ∀ (j : Nat) (e : Addr) (n d : Int), es[j]? = some e → ns[j]? = some n → ds[j]? = some d → EndAt CE H e n d false
theorem CornersAt.same {H H' : Hp} {c : Addr} {es : List Addr} {ns ds : List Int} (x : CornersAt CE H c es ns ds) (s : Same H H') : CornersAt CE H' c es ns ds := ⟨s _ _ x.lst, x.le, x.ln, x.ld, fun j e n d h1 h2 h3 => (x.at_ j e n d h1 h2 h3).same s⟩
def eqE (n d ne de : Int) : Bool := decide (n * de - ne * d = 0)
def spNodeEnd (CE CP : Addr) : Sp := fun vs H Q _ => ∃ (px py c e : Addr) (X Y : Sn) (es : List Addr) (n0 n1 n2 n3 d0 d1 d2 d3 ne de : Int) (te : Bool), vs = [.ref px, .ref py, .ref c, .ref e] ∧ SpanAt CE CP H px X ∧ SpanAt CE CP H py Y ∧ CornersAt CE H c es [n0, n1, n2, n3] [d0, d1, d2, d3] ∧ EndAt CE H e ne de te ∧
  (∀ n ∈ [n0, n1, n2, n3], Bd n) ∧ (∀ d ∈ [d0, d1, d2, d3], Bd d) ∧ Bd ne ∧ Bd de ∧
  ∀ (H' : Hp) (q : Addr), Same H H' → EndAt CE H' q ne de (TQ.mbh X.lt X.gt Y.lt Y.gt (eqE n0 d0 ne de) (eqE n1 d1 ne de) (eqE n2 d2 ne de) (eqE n3 d3 ne de)) → Q (.ref q) H'
theorem sc_node_end : FnScope ["x", "y", "corners", "end", "at", "corner"] ["x", "y", "corners", "end"] (defScope s_node_end) := ⟨rfl, rfl, rfl, by decide +kernel, rfl, by decide +kernel, by decide +kernel⟩
theorem ok_nodeend {f : Addr} {fd : FuncData} (F : Fun K "node_end" "node_end" s_node_end f fd) (T : Txt K mg CE CP CS CN CH) (D_compared : Has P w K mg base "compared" 1 ["above", "below", "end"] (spCompared CE)) (I_End : HasC P w K mg base "End" CE 1 ["self", "above", "below", "taken"] (spInitE CE)) (D_may_be_had : Has P w K mg base "may_be_had" 2 ["x", "y", "at"] (spMbh CE CP)) :
    FnOk P w K mg base CX0 3 f fd ["x", "y", "corners", "end"] (spNodeEnd CE CP) := by
  refine F.ok sc_node_end (fun vs H Q E h => ?_) (fun cdv A outer s H vs Q E hr h => ?_)
  · obtain ⟨px, py, c, e, X, Y, es, n0, n1, n2, n3, d0, d1, d2, d3, ne, de, te, rfl, _⟩ := h
    rfl
  · obtain ⟨px, py, c, e, X, Y, es, n0, n1, n2, n3, d0, d1, d2, d3, ne, de, te, rfl, hX, hY, hc, he, bn, bd, b1, b2, k⟩ := h
    refine ⟨_, (pss_cons (ps_setLc (i := 4) (own := [("corner", 5)]) (g := gName 5) (tt := tYes) rfl sc_node_end.nd rfl rfl (sw_true rfl rfl rfl (by decide +kernel)) (pi_list (pv 2)) (blkOk_by (N := ["x", "y", "corners", "end", "at", "corner"]) (sc := defScope s_node_end) (by decide +kernel)) (fun _ _ _ _ _ => pg_name (i := 5) sc_node_end.nd rfl (Or.inl rfl)) (fun _ _ _ _ _ => pts_nil) (fun _ _ _ _ _ => (pe_cmpR op_eq (pe_own D_compared (hr.mono (by decide)) rfl (pa_cons (pe_fldK (K := K) rfl (pv 5) rfl) (pa_cons (pe_fldK (K := K) rfl (pv 5) rfl) (pa_cons (pv 3) pa_nil)))) pe_int (nomark _))))
   (pss_one (ps_ret (pe_ownC I_End (hr.mono (by decide)) rfl (pa_cons (pe_fld (pv 3) rfl) (pa_cons (pe_fld (pv 3) rfl) (pa_cons (pe_own D_may_be_had (hr.mono (by decide)) rfl (pa_cons (pv 0) (pa_cons (pv 1) (pa_cons (pv 4) pa_nil)))) pa_nil))))))), ?_⟩
    have hle : (es.map V.ref).length = ([.bl (eqE n0 d0 ne de), .bl (eqE n1 d1 ne de), .bl (eqE n2 d2 ne de), .bl (eqE n3 d3 ne de)] : List V).length := by
      rw [List.length_map, hc.le]
      rfl
    refine ⟨_, rfl, c, rfl, ⟨_, SqL.of hc.lst⟩, fun D nD => lc_map (K := K) (a := c) (xs := es.map V.ref) (ys := [.bl (eqE n0 d0 ne de), .bl (eqE n1 d1 ne de), .bl (eqE n2 d2 ne de), .bl (eqE n3 d3 ne de)]) hle (by show 4 < sizeLine; decide) nD (SqL.of hc.lst) ?_ ?_⟩
    · intro i x y H1 R hx hy s1 k1
      obtain ⟨ei, hei, rfl⟩ := map_getR hx
      have key : ∃ n d, ([n0, n1, n2, n3] : List Int)[i]? = some n ∧ ([d0, d1, d2, d3] : List Int)[i]? = some d ∧ y = .bl (eqE n d ne de) := by
        match i, hy with
        | 0, hy => cases hy; exact ⟨_, _, rfl, rfl, rfl⟩
        | 1, hy => cases hy; exact ⟨_, _, rfl, rfl, rfl⟩
        | 2, hy => cases hy; exact ⟨_, _, rfl, rfl, rfl⟩
        | 3, hy => cases hy; exact ⟨_, _, rfl, rfl, rfl⟩
        | _ + 4, hy => cases hy
      obtain ⟨n, d, en, ed, rfl⟩ := key
      obtain ⟨dz, hz⟩ := hc.at_ i ei n d hei en ed
      refine ⟨rfl, ?_⟩
      refine ⟨_, rfl, ei, CE, dz, _, _, rfl, s1 _ _ hz, T.clE, T.eAbove, fE_above _ _ _, _, rfl, ei, CE, dz, _, _, rfl, s1 _ _ hz, T.clE, T.eBelow, fE_below _ _ _, _, rfl, ?_⟩
      refine ⟨n, d, e, ne, de, te, rfl, he.same s1, bn n (List.mem_of_getElem? en), bd d (List.mem_of_getElem? ed), b1, b2, rfl, ?_⟩
      rw [decI]
      exact k1 H1 (Same.refl H1)
    · intro H1 s1 hD
      obtain ⟨dz, hz⟩ := he.same s1
      refine ⟨_, rfl, e, CE, dz, _, _, rfl, hz, T.clE, T.eAbove, fE_above _ _ _, _, rfl, e, CE, dz, _, _, rfl, hz, T.clE, T.eBelow, fE_below _ _ _, ?_⟩
      refine ⟨_, rfl, _, rfl, _, rfl, px, py, D, X, Y, _, _, _, _, rfl, hX.same s1, hY.same s1, hD, ?_⟩
      intro q dq nq ndq nee
      exact ⟨q, dq, _, _, _, rfl, upd_same, fun H2 hq kp => ⟨rfl, k H2 q (s1.trans (Same.made nq ndq kp)) ⟨dq, hq⟩⟩⟩
end
end Sv

set_option Elab.async false
set_option maxRecDepth 100000
set_option maxHeartbeats 2000000
namespace Sv
open PySem PySem.Spec PyProof.Rows L2 Hb
open PySem.W (Codec)
open Re04 (Item Known)
open TQ (Sn Rep BB swp wpg lies rawOf CanE Tail RepO sureOf)
/-- four pairs of ends, by what the specification has at the corners -/
structure PairsAt (CE : Addr) (H : Hp) (F : Re04.Fun) (r s : Re04.Range) (l : Addr) (xs : List V) : Prop where
  lst : H l = some (.lst xs)
  len : xs.length = 4
  at_ : ∀ (i : Nat) (v : V), xs[i]? = some v → ∃ (t ex ey : Addr) (X Y : Re04.Q) (tx ty : Bool), v = .ref t ∧ H t = some (.tup [.ref ex, .ref ey]) ∧ EndAt CE H ex X.n X.d tx ∧ EndAt CE H ey Y.n Y.d ty ∧ TQ.Sz BB X ∧ TQ.Sz BB Y ∧
    (TQ.aboves F r s)[i]? = some (Re04.above F X Y) ∧ (TQ.belows F r s)[i]? = some (Re04.below F X Y)
theorem cut_f (F : Re04.Fun) : cutV ((facs F).map V.int) none (some 4) = [.int F.a, .int F.b, .int F.c, .int F.d] := rfl
theorem cut_b (F : Re04.Fun) : cutV ((facs F).map V.int) (some 4) none = [.int F.e, .int F.f, .int F.g, .int F.h] := rfl
section
variable {P : Program} {w : World} {K : PySem.W.Frag} {mg : Str → Option Value} {base : Heap} {CE CP CS CN CH : Addr}
def spCorner (CE : Addr) : Sp := fun vs H Q _ => ∃ (a l : Addr) (F : Re04.Fun) (r s : Re04.Range) (xs : List V), vs = [.ref a, .ref l] ∧ H a = some (.tup ((facs F).map V.int)) ∧ PairsAt CE H F r s l xs ∧ TQ.FOk F ∧
  (Re04.safe F r s = false → ∀ H', Same H H' → Q .non H') ∧
  (Re04.safe F r s = true → ∀ (H' : Hp) (c : Addr) (es : List Addr), Same H H' → CornersAt CE H' c es (TQ.sign F r s (TQ.aboves F r s)) (TQ.sign F r s (TQ.belows F r s)) → Q (.ref c) H')
theorem sign_len {F : Re04.Fun} {r s : Re04.Range} {l : List Int} : (TQ.sign F r s l).length = l.length := by
  unfold TQ.sign
  split
  · exact List.length_map _
  · rfl
theorem sz_d {x : Re04.Q} (h : TQ.Sz BB x) : ((x.d : Nat) : Int).natAbs < 2 ^ BB := by
  rw [Int.natAbs_natCast]
  exact h.d
theorem sc_corner_values : FnScope ["factors", "pairs", "above", "below", "pair", "place", "number"] ["factors", "pairs"] (defScope s_corner_values) := ⟨rfl, rfl, rfl, by decide +kernel, rfl, by decide +kernel, by decide +kernel⟩
theorem ok_corner {f : Addr} {fd : FuncData} (F : Fun K "corner_values" "corner_values" s_corner_values f fd) (T : Txt K mg CE CP CS CN CH) (D_part_value : Has P w K mg base "part_value" 1 ["factors", "pair"] (spPart K CE)) (I_End : HasC P w K mg base "End" CE 1 ["self", "above", "below", "taken"] (spInitE CE)) :
    FnOk P w K mg base CX0 3 f fd ["factors", "pairs"] (spCorner CE) := by
  refine F.ok sc_corner_values (fun vs H Q E h => ?_) (fun cdv A outer s H vs Q E hr h => ?_)
  · obtain ⟨a, l, Fn, r, s, xs, rfl, _⟩ := h
    rfl
  · obtain ⟨a, l, Fn, r, s2, xs, rfl, ha, hl, fok, kN, kS⟩ := h
    refine ⟨_, (pss_cons (ps_set (i := 2) sc_corner_values.nd rfl (Or.inr rfl) (pe_lc (own := [("pair", 4)]) (g := gName 4) (tt := tYes) rfl sc_corner_values.nd (pi_list (pv 1)) (blkOk_by (N := ["factors", "pairs", "above", "below", "pair", "place", "number"]) (sc := defScope s_corner_values) (by decide +kernel)) (fun _ _ _ _ _ => pg_name (i := 4) sc_corner_values.nd rfl (Or.inl rfl)) (fun _ _ _ _ _ => pts_nil) (fun _ _ _ _ _ => (pe_own D_part_value (hr.mono (by decide)) rfl (pa_cons (pe_slice (sl_tupK (K := K) rfl) (pv 0) po_none (po_some pe_int)) (pa_cons (pv 4) pa_nil))))))
   (pss_cons (ps_set (i := 3) sc_corner_values.nd rfl (Or.inr rfl) (pe_lc (own := [("pair", 4)]) (g := gName 4) (tt := tYes) rfl sc_corner_values.nd (pi_list (pv 1)) (blkOk_by (N := ["factors", "pairs", "above", "below", "pair", "place", "number"]) (sc := defScope s_corner_values) (by decide +kernel)) (fun _ _ _ _ _ => pg_name (i := 4) sc_corner_values.nd rfl (Or.inl rfl)) (fun _ _ _ _ _ => pts_nil) (fun _ _ _ _ _ => (pe_own D_part_value (hr.mono (by decide)) rfl (pa_cons (pe_slice (sl_tupK (K := K) rfl) (pv 0) (po_some pe_int) po_none) (pa_cons (pv 4) pa_nil))))))
   (pss_cons (ps_if (pt_cmpR op_lt (pe_ix ix_list (pv 3) pe_int (fun _ _ => rfl)) pe_int (nomark _))
    (pss_cons (ps_set (i := 2) sc_corner_values.nd rfl (Or.inr rfl) (pe_lc (own := [("number", 6)]) (g := gName 6) (tt := tYes) rfl sc_corner_values.nd (pi_list (pv 2)) (blkOk_by (N := ["factors", "pairs", "above", "below", "pair", "place", "number"]) (sc := defScope s_corner_values) (by decide +kernel)) (fun _ _ _ _ _ => pg_name (i := 6) sc_corner_values.nd rfl (Or.inl rfl)) (fun _ _ _ _ _ => pts_nil) (fun _ _ _ _ _ => (pe_un un_neg (pv 6)))))
   (pss_one (ps_set (i := 3) sc_corner_values.nd rfl (Or.inr rfl) (pe_lc (own := [("number", 6)]) (g := gName 6) (tt := tYes) rfl sc_corner_values.nd (pi_list (pv 3)) (blkOk_by (N := ["factors", "pairs", "above", "below", "pair", "place", "number"]) (sc := defScope s_corner_values) (by decide +kernel)) (fun _ _ _ _ _ => pg_name (i := 6) sc_corner_values.nd rfl (Or.inl rfl)) (fun _ _ _ _ _ => pts_nil) (fun _ _ _ _ _ => (pe_un un_neg (pv 6)))))))
    pss_nil)
   (pss_cons (ps_if (pt_not (pt_val (pe_callB (cr_all rfl) (by rfl) T.n_all (by decide +kernel) (pa_cons (pe_lc (own := [("number", 6)]) (g := gName 6) (tt := tYes) rfl sc_corner_values.nd (pi_list (pv 3)) (blkOk_by (N := ["factors", "pairs", "above", "below", "pair", "place", "number"]) (sc := defScope s_corner_values) (by decide +kernel)) (fun _ _ _ _ _ => pg_name (i := 6) sc_corner_values.nd rfl (Or.inl rfl)) (fun _ _ _ _ _ => pts_nil) (fun _ _ _ _ _ => (pe_cmpR op_gt (pv 6) pe_int (nomark _)))) pa_nil))))
    (pss_one (ps_ret pe_non))
    pss_nil)
   (pss_one (ps_ret (pe_lc (own := [("place", 5)]) (g := gName 5) (tt := tYes) rfl sc_corner_values.nd (pi_range1 (by rfl) T.n_range (pa_cons (pe_callB call_len_seq (by rfl) T.n_len PySem.boot_len (pa_cons (pv 1) pa_nil)) pa_nil)) (blkOk_by (N := ["factors", "pairs", "above", "below", "pair", "place", "number"]) (sc := defScope s_corner_values) (by decide +kernel)) (fun _ _ _ _ _ => pg_name (i := 5) sc_corner_values.nd rfl (Or.inl rfl)) (fun _ _ _ _ _ => pts_nil) (fun _ _ _ _ _ => (pe_ownC I_End (hr.mono (by decide)) rfl (pa_cons (pe_ix (ix_listK (K := K) rfl) (pv 2) (pv 5) (fun _ _ => rfl)) (pa_cons (pe_ix (ix_listK (K := K) rfl) (pv 3) (pv 5) (fun _ _ => rfl)) (pa_cons pe_bl pa_nil)))))))))))), ?_⟩
    -- above = [part_value(factors[:4], pair) for pair in pairs]
    have step : ∀ (i : Nat) (v : V) (H' : Hp), xs[i]? = some v → Same H H' → ∃ (t ex ey : Addr) (X Y : Re04.Q) (tx ty : Bool), v = .ref t ∧ H' t = some (.tup [.ref ex, .ref ey]) ∧ EndAt CE H' ex X.n X.d tx ∧ EndAt CE H' ey Y.n Y.d ty ∧ TQ.Sz BB X ∧ TQ.Sz BB Y ∧
        (TQ.aboves Fn r s2)[i]? = some (Re04.above Fn X Y) ∧ (TQ.belows Fn r s2)[i]? = some (Re04.below Fn X Y) := fun i v H' h sH => by
      obtain ⟨t, ex, ey, X, Y, tx, ty, e1, e2, e3, e4, e5, e6, e7, e8⟩ := hl.at_ i v h
      exact ⟨t, ex, ey, X, Y, tx, ty, e1, sH _ _ e2, e3.same sH, e4.same sH, e5, e6, e7, e8⟩
    refine ⟨_, rfl, l, rfl, ⟨_, SqL.of hl.lst⟩, fun D1 n1 => lc_map (K := K) (a := l) (xs := xs) (ys := (TQ.aboves Fn r s2).map V.int) hl.len (by show 4 < sizeLine; decide) n1 (SqL.of hl.lst) ?_ ?_⟩
    · intro i v y H1 R hv hy s1 k1
      obtain ⟨t, ex, ey, X, Y, tx, ty, rfl, ht, hx, hyy, zx, zy, ea, eb⟩ := step i v H1 hv s1
      obtain ⟨n, en, rfl⟩ := map_get hy
      have en : n = Re04.above Fn X Y := Option.some.inj (en.symm.trans ea)
      subst en
      refine ⟨rfl, ?_⟩
      refine ⟨_, rfl, _, rfl, a, _, rfl, SqT.of (s1 _ _ ha), (by show ¬ (HT.sIx 8 0 none = 0 ∧ HT.sIx 8 8 (some 4) = 8); decide), fun q nq => ?_⟩
      rw [cut_f]
      have s2 := same_upd nq (o := .tup [.int Fn.a, .int Fn.b, .int Fn.c, .int Fn.d])
      refine ⟨_, rfl, q, t, ex, ey, Fn.a, Fn.b, Fn.c, Fn.d, X.n, X.d, Y.n, Y.d, tx, ty, rfl, SqT.of upd_same, SqT.of (s2 _ _ ht), hx.same s2, hyy.same s2, ⟨fok.a, fok.b, fok.c, fok.d⟩, ⟨zx.n, sz_d zx, zy.n, sz_d zy⟩, ?_⟩
      rw [TQ.pv_above]
      exact k1 _ s2
    intro H1 s1 hD1
    -- below = [part_value(factors[4:], pair) for pair in pairs]
    refine ⟨_, rfl, l, rfl, ⟨_, SqL.of (s1 _ _ hl.lst)⟩, fun D2 n2 => lc_map (K := K) (a := l) (xs := xs) (ys := (TQ.belows Fn r s2).map V.int) hl.len (by show 4 < sizeLine; decide) n2 (SqL.of (s1 _ _ hl.lst)) ?_ ?_⟩
    · intro i v y H2 R hv hy s2' k1
      obtain ⟨t, ex, ey, X, Y, tx, ty, rfl, ht, hx, hyy, zx, zy, ea, eb⟩ := step i v H2 hv (s1.trans s2')
      obtain ⟨n, en, rfl⟩ := map_get hy
      have en : n = Re04.below Fn X Y := Option.some.inj (en.symm.trans eb)
      subst en
      refine ⟨rfl, ?_⟩
      refine ⟨_, rfl, _, rfl, a, _, rfl, SqT.of (s2' _ _ (s1 _ _ ha)), (by show ¬ (HT.sIx 8 0 (some 4) = 0 ∧ HT.sIx 8 8 none = 8); decide), fun q nq => ?_⟩
      rw [cut_b]
      have s3 := same_upd nq (o := .tup [.int Fn.e, .int Fn.f, .int Fn.g, .int Fn.h])
      refine ⟨_, rfl, q, t, ex, ey, Fn.e, Fn.f, Fn.g, Fn.h, X.n, X.d, Y.n, Y.d, tx, ty, rfl, SqT.of upd_same, SqT.of (s3 _ _ ht), hx.same s3, hyy.same s3, ⟨fok.e, fok.f, fok.g, fok.h⟩, ⟨zx.n, sz_d zx, zy.n, sz_d zy⟩, ?_⟩
      rw [TQ.pv_below]
      exact k1 _ s3
    intro H2 s2' hD2
    have hD1 := s2' _ _ hD1
    have s12 := s1.trans s2'
    -- if below[0] < 0
    refine ⟨_, rfl, D2, _, 0, .int (Re04.below Fn r.lo s2.lo), rfl, rfl, SqL.of hD2, atI_nat (j := 0) rfl, _, _, rfl, rfl, _, rfl, ?_⟩
    by_cases c : Re04.below Fn r.lo s2.lo < 0
    · rw [decide_eq_true c]
      refine iteT ?_
      have eA : TQ.sign Fn r s2 (TQ.aboves Fn r s2) = (TQ.aboves Fn r s2).map (fun z => -z) := if_pos c
      have eB : TQ.sign Fn r s2 (TQ.belows Fn r s2) = (TQ.belows Fn r s2).map (fun z => -z) := if_pos c
      have neg : ∀ (ns : List Int) (i : Nat) (x y : V), (ns.map V.int)[i]? = some x → ((ns.map (fun z => -z)).map V.int)[i]? = some y → ∃ n, x = .int n ∧ y = .int (-n) := fun ns i x y h1 h2 => by
        obtain ⟨n, en, rfl⟩ := map_get h1
        obtain ⟨m, em, rfl⟩ := map_get h2
        rw [List.getElem?_map, en] at em
        exact ⟨n, rfl, congrArg V.int (Option.some.inj em).symm⟩
      refine ⟨_, rfl, D1, rfl, ⟨_, SqL.of hD1⟩, fun D3 n3 => lc_map (K := K) (a := D1) (xs := (TQ.aboves Fn r s2).map V.int) (ys := ((TQ.aboves Fn r s2).map (fun z => -z)).map V.int) rfl (by show 4 < sizeLine; decide) n3 (SqL.of hD1) ?_ ?_⟩
      · intro i x y H3 R hx hy s3 k1
        obtain ⟨n, rfl, rfl⟩ := neg _ i x y hx hy
        exact ⟨rfl, _, rfl, n, rfl, k1 H3 (Same.refl H3)⟩
      intro H3 s3 hD3
      have hD2' := s3 _ _ hD2
      refine ⟨_, rfl, D2, rfl, ⟨_, SqL.of hD2'⟩, fun D4 n4 => lc_map (K := K) (a := D2) (xs := (TQ.belows Fn r s2).map V.int) (ys := ((TQ.belows Fn r s2).map (fun z => -z)).map V.int) rfl (by show 4 < sizeLine; decide) n4 (SqL.of hD2') ?_ ?_⟩
      · intro i x y H4 R hx hy s4 k1
        obtain ⟨n, rfl, rfl⟩ := neg _ i x y hx hy
        exact ⟨rfl, _, rfl, n, rfl, k1 H4 (Same.refl H4)⟩
      intro H4 s4 hD4
      have hDa := s4 _ _ hD3
      have hDb := hD4
      have sH := (s12.trans s3).trans s4
      rw [← eA] at hDa
      rw [← eB] at hDb
      have lA : (TQ.sign Fn r s2 (TQ.aboves Fn r s2)).length = 4 := sign_len
      have lB : (TQ.sign Fn r s2 (TQ.belows Fn r s2)).length = 4 := sign_len
      have sf := TQ.safe_iff Fn r s2
      generalize hA : TQ.sign Fn r s2 (TQ.aboves Fn r s2) = As at *
      generalize hB : TQ.sign Fn r s2 (TQ.belows Fn r s2) = Bs at *
      -- all([number > 0 for number in below])
      refine ⟨_, rfl, D4, rfl, ⟨_, SqL.of hDb⟩, fun D5 n5 => lc_map (K := K) (a := D4) (xs := Bs.map V.int) (ys := (Bs.map fun z => decide (0 < z)).map V.bl) (by simp) (by rw [List.length_map, List.length_map, lB]; decide) n5 (SqL.of hDb) ?_ ?_⟩
      · intro i x y H5 R hx hy s5 k1
        obtain ⟨n, en, rfl⟩ := map_get hx
        rw [List.getElem?_map, List.getElem?_map, en] at hy
        have hy : V.bl (decide (0 < n)) = y := Option.some.inj hy
        subst hy
        exact ⟨rfl, _, rfl, n, 0, rfl, rfl, k1 H5 (Same.refl H5)⟩
      intro H5 s5 hD5
      refine ⟨D5, Bs.map fun z => decide (0 < z), rfl, SqL.of hD5, _, rfl, ?_⟩
      have eall : (Bs.map fun z => decide (0 < z)).all id = Re04.safe Fn r s2 := by
        rw [← sf, List.all_map]
        rfl
      rw [eall]
      have sH5 := sH.trans s5
      cases csf : Re04.safe Fn r s2 with
      | false => exact iteT (kN csf H5 sH5)
      | true =>
        refine iteF ?_
        have hDa5 := s5 _ _ hDa
        have hDb5 := s5 _ _ hDb
        -- [End(above[place], below[place], False) for place in range(len(pairs))]
        refine ⟨_, rfl, l, _, rfl, .inl (SqL.of (sH5 _ _ hl.lst)), ((xs.length : Nat) : Int), rfl, by rw [hl.len]; decide, by rw [hl.len]; decide, fun D6 n6 => ?_⟩
        have e4 : ((xs.length : Nat) : Int).toNat = 4 := by rw [hl.len]; rfl
        rw [e4]
        refine lc_range (lo := 0) (n := 4) (fun i H' => Same H5 H' ∧ ∃ es : List Addr, es.length = i ∧ H' D6 = some (.lst (es.map V.ref)) ∧ ∀ (j : Nat) (e : Addr) (n d : Int), es[j]? = some e → As[j]? = some n → Bs[j]? = some d → EndAt CE H' e n d false) ⟨same_upd n6, [], rfl, upd_same, fun j e n d h => by cases h⟩ ?_ ?_
        · rintro i H6 hi ⟨s6, es, le, h6, hes⟩
          refine ⟨rfl, ?_⟩
          unfold tYes
          refine iteT ?_
          obtain ⟨n, en⟩ : ∃ n, As[i]? = some n := ⟨_, List.getElem?_eq_getElem (by omega)⟩
          obtain ⟨d, ed⟩ : ∃ d, Bs[i]? = some d := ⟨_, List.getElem?_eq_getElem (by omega)⟩
          have ai : ∀ (ns : List Int) (m : Int), ns[i]? = some m → atI (ns.map V.int) ((0 : Int) + (i : Int)) = some (.int m) := fun ns m em => at_of (j := i) (by omega) (by rw [List.getElem?_map, em]; rfl)
          refine ⟨_, rfl, _, rfl, D3, _, _, .int n, rfl, rfl, SqL.of (s6 _ _ hDa5), ai As n en, _, rfl, _, rfl, D4, _, _, .int d, rfl, rfl, SqL.of (s6 _ _ hDb5), ai Bs d ed, ?_⟩
          intro x dx nx ndx ne
          refine ⟨x, dx, n, d, false, rfl, upd_same, fun H7 hx kp => ⟨rfl, ?_⟩⟩
          have s7 : Same H6 H7 := Same.made nx ndx kp
          refine ⟨_, s7 _ _ h6, ?_, same_put (s6.trans s7) n6, es ++ [x], by simp [le], ?_, ?_⟩
          · rw [List.length_map, le]
            exact Nat.lt_trans hi (by decide)
          · rw [upd_same]
            simp
          · intro j e n' d' hj hn hd
            have fin : EndAt CE H7 e n' d' false := by
              by_cases cj : j < es.length
              · rw [List.getElem?_append_left cj] at hj
                exact (hes j e n' d' hj hn hd).same s7
              · rw [List.getElem?_append_right (by omega)] at hj
                have z : j - es.length = 0 := by
                  have := (List.getElem?_eq_some_iff.mp hj).1
                  simp at this
                  omega
                rw [z] at hj
                have hj : x = e := Option.some.inj hj
                subst hj
                have ej : j = i := by omega
                subst ej
                have e1 : n = n' := Option.some.inj (en.symm.trans hn)
                have e2 : d = d' := Option.some.inj (ed.symm.trans hd)
                subst e1
                subst e2
                exact ⟨dx, hx⟩
            obtain ⟨dz, hz⟩ := fin
            exact ⟨dz, by rw [upd_ne (ne_of hz (s7 _ _ h6) (by intro z; cases z))]; exact hz⟩
        · rintro H6 ⟨s6, es, le, h6, hes⟩
          exact kS csf H6 D6 es (sH5.trans s6) ⟨h6, le, lA, lB, hes⟩
    · rw [decide_eq_false c]
      refine iteF ?_
      have eA : TQ.sign Fn r s2 (TQ.aboves Fn r s2) = TQ.aboves Fn r s2 := if_neg c
      have eB : TQ.sign Fn r s2 (TQ.belows Fn r s2) = TQ.belows Fn r s2 := if_neg c
      have hDa := hD1
      have hDb := hD2
      have sH := s12
      rw [← eA] at hDa
      rw [← eB] at hDb
      have lA : (TQ.sign Fn r s2 (TQ.aboves Fn r s2)).length = 4 := sign_len
      have lB : (TQ.sign Fn r s2 (TQ.belows Fn r s2)).length = 4 := sign_len
      have sf := TQ.safe_iff Fn r s2
      generalize hA : TQ.sign Fn r s2 (TQ.aboves Fn r s2) = As at *
      generalize hB : TQ.sign Fn r s2 (TQ.belows Fn r s2) = Bs at *
      -- all([number > 0 for number in below])
      refine ⟨_, rfl, D2, rfl, ⟨_, SqL.of hDb⟩, fun D5 n5 => lc_map (K := K) (a := D2) (xs := Bs.map V.int) (ys := (Bs.map fun z => decide (0 < z)).map V.bl) (by simp) (by rw [List.length_map, List.length_map, lB]; decide) n5 (SqL.of hDb) ?_ ?_⟩
      · intro i x y H5 R hx hy s5 k1
        obtain ⟨n, en, rfl⟩ := map_get hx
        rw [List.getElem?_map, List.getElem?_map, en] at hy
        have hy : V.bl (decide (0 < n)) = y := Option.some.inj hy
        subst hy
        exact ⟨rfl, _, rfl, n, 0, rfl, rfl, k1 H5 (Same.refl H5)⟩
      intro H5 s5 hD5
      refine ⟨D5, Bs.map fun z => decide (0 < z), rfl, SqL.of hD5, _, rfl, ?_⟩
      have eall : (Bs.map fun z => decide (0 < z)).all id = Re04.safe Fn r s2 := by
        rw [← sf, List.all_map]
        rfl
      rw [eall]
      have sH5 := sH.trans s5
      cases csf : Re04.safe Fn r s2 with
      | false => exact iteT (kN csf H5 sH5)
      | true =>
        refine iteF ?_
        have hDa5 := s5 _ _ hDa
        have hDb5 := s5 _ _ hDb
        -- [End(above[place], below[place], False) for place in range(len(pairs))]
        refine ⟨_, rfl, l, _, rfl, .inl (SqL.of (sH5 _ _ hl.lst)), ((xs.length : Nat) : Int), rfl, by rw [hl.len]; decide, by rw [hl.len]; decide, fun D6 n6 => ?_⟩
        have e4 : ((xs.length : Nat) : Int).toNat = 4 := by rw [hl.len]; rfl
        rw [e4]
        refine lc_range (lo := 0) (n := 4) (fun i H' => Same H5 H' ∧ ∃ es : List Addr, es.length = i ∧ H' D6 = some (.lst (es.map V.ref)) ∧ ∀ (j : Nat) (e : Addr) (n d : Int), es[j]? = some e → As[j]? = some n → Bs[j]? = some d → EndAt CE H' e n d false) ⟨same_upd n6, [], rfl, upd_same, fun j e n d h => by cases h⟩ ?_ ?_
        · rintro i H6 hi ⟨s6, es, le, h6, hes⟩
          refine ⟨rfl, ?_⟩
          unfold tYes
          refine iteT ?_
          obtain ⟨n, en⟩ : ∃ n, As[i]? = some n := ⟨_, List.getElem?_eq_getElem (by omega)⟩
          obtain ⟨d, ed⟩ : ∃ d, Bs[i]? = some d := ⟨_, List.getElem?_eq_getElem (by omega)⟩
          have ai : ∀ (ns : List Int) (m : Int), ns[i]? = some m → atI (ns.map V.int) ((0 : Int) + (i : Int)) = some (.int m) := fun ns m em => at_of (j := i) (by omega) (by rw [List.getElem?_map, em]; rfl)
          refine ⟨_, rfl, _, rfl, D1, _, _, .int n, rfl, rfl, SqL.of (s6 _ _ hDa5), ai As n en, _, rfl, _, rfl, D2, _, _, .int d, rfl, rfl, SqL.of (s6 _ _ hDb5), ai Bs d ed, ?_⟩
          intro x dx nx ndx ne
          refine ⟨x, dx, n, d, false, rfl, upd_same, fun H7 hx kp => ⟨rfl, ?_⟩⟩
          have s7 : Same H6 H7 := Same.made nx ndx kp
          refine ⟨_, s7 _ _ h6, ?_, same_put (s6.trans s7) n6, es ++ [x], by simp [le], ?_, ?_⟩
          · rw [List.length_map, le]
            exact Nat.lt_trans hi (by decide)
          · rw [upd_same]
            simp
          · intro j e n' d' hj hn hd
            have fin : EndAt CE H7 e n' d' false := by
              by_cases cj : j < es.length
              · rw [List.getElem?_append_left cj] at hj
                exact (hes j e n' d' hj hn hd).same s7
              · rw [List.getElem?_append_right (by omega)] at hj
                have z : j - es.length = 0 := by
                  have := (List.getElem?_eq_some_iff.mp hj).1
                  simp at this
                  omega
                rw [z] at hj
                have hj : x = e := Option.some.inj hj
                subst hj
                have ej : j = i := by omega
                subst ej
                have e1 : n = n' := Option.some.inj (en.symm.trans hn)
                have e2 : d = d' := Option.some.inj (ed.symm.trans hd)
                subst e1
                subst e2
                exact ⟨dx, hx⟩
            obtain ⟨dz, hz⟩ := fin
            exact ⟨dz, by rw [upd_ne (ne_of hz (s7 _ _ h6) (by intro z; cases z))]; exact hz⟩
        · rintro H6 ⟨s6, es, le, h6, hes⟩
          exact kS csf H6 D6 es (sH5.trans s6) ⟨h6, le, lA, lB, hes⟩
end
end Sv

set_option Elab.async false
set_option maxRecDepth 100000
set_option maxHeartbeats 2000000
namespace Sv
open PySem PySem.Spec PyProof.Rows L2 Hb
open PySem.W (Codec)
open Re04 (Item Known)
open TQ (Sn Rep BB swp wpg lies rawOf CanE Tail RepO sureOf)
theorem dec_rf (a : Addr) : decide (V.ref a = V.non) = false := decide_eq_false (by intro q; cases q)
theorem four {α : Type} {l : List α} (h : l.length = 4) : ∃ a b c d, l = [a, b, c, d] := by
  match l, h with
  | [a, b, c, d], _ => exact ⟨a, b, c, d, rfl⟩
theorem eqE_at {c1 c2 : Re04.Corner} {n d m e : Int} (k1 : TQ.Cor c1 n d) (k2 : TQ.Cor c2 m e) : eqE n d m e = decide (c1.v = c2.v) := by
  have := k1.pos
  have := k2.pos
  unfold eqE
  refine decide_eq_decide.mpr ?_
  rw [TQ.is_eq k1.red k2.red (by omega) (by omega) k1.is_ k2.is_]
  omega
def imgO (F : Re04.Fun) : Option Re04.Range → Option Re04.Range → Option Re04.Range
  | some r, some s => Re04.image F r s
  | _, _ => none
theorem sure_short {b : Nat} {t : Re04.Range} (h : TQ.Rg b t) (hb : b ≤ BB) : t.sure.terms.length ≤ 1000000 := by
  have := TQ.sure_len b t h.ok h.lo.d h.hi.d
  have := TQ.BB_eq
  omega
section
variable {P : Program} {w : World} {K : PySem.W.Frag} {mg : Str → Option Value} {base : Heap} {CE CP CS CN CH : Addr}
def spNodeSpan (CE CP : Addr) : Sp := fun vs H Q _ => ∃ (a : Addr) (vx vy : V) (F : Re04.Fun) (ox oy : Option Re04.Range) (b : Nat), vs = [.ref a, vx, vy] ∧ H a = some (.tup ((facs F).map V.int)) ∧ OptAt CE CP H vx (ox.map rawOf) ∧ OptAt CE CP H vy (oy.map rawOf) ∧ TQ.FOk F ∧
  (∀ r, ox = some r → TQ.Rg b r) ∧ (∀ r, oy = some r → TQ.Rg b r) ∧ 2 * b + 12 ≤ BB ∧ ∀ (H' : Hp) (v : V) (o : Option Sn), Same H H' → OptAt CE CP H' v o → RepO o (imgO F ox oy) → Q v H'
def LpNode (H : Hp) (a c : Addr) (vx vy : V) (es : List Addr) (cs : List Re04.Corner) (v0 : Re04.Q) (i : Nat) (σ : L2.St) (H' : Hp) : Prop := H' = H ∧ ∃ (jl jg : Nat) (el eg : Addr) (cl cg : Re04.Corner) (v6 : Option V), es[jl]? = some el ∧ cs[jl]? = some cl ∧ cl.v = Re04.least v0 (cs.take i) ∧ es[jg]? = some eg ∧ cs[jg]? = some cg ∧ cg.v = Re04.greatest v0 (cs.take i) ∧
  σ = [some (.ref a), some vx, some vy, some (.ref c), some (.ref el), some (.ref eg), v6]
theorem sc_node_span : FnScope ["factors", "x", "y", "corners", "least", "greatest", "corner"] ["factors", "x", "y"] (defScope s_node_span) := ⟨rfl, rfl, rfl, by decide +kernel, rfl, by decide +kernel, by decide +kernel⟩
theorem ok_nodespan {f : Addr} {fd : FuncData} (F : Fun K "node_span" "node_span" s_node_span f fd) (T : Txt K mg CE CP CS CN CH) (D_corner_values : Has P w K mg base "corner_values" 3 ["factors", "pairs"] (spCorner CE)) (D_corner_pairs : Has P w K mg base "corner_pairs" 1 ["x", "y"] (spPairs CP)) (D_compared : Has P w K mg base "compared" 1 ["above", "below", "end"] (spCompared CE))
    (I_Span : HasC P w K mg base "Span" CP 1 ["self", "least", "greatest"] (spInitP CP)) (D_node_end : Has P w K mg base "node_end" 3 ["x", "y", "corners", "end"] (spNodeEnd CE CP)) : FnOk P w K mg base CX0 4 f fd ["factors", "x", "y"] (spNodeSpan CE CP) := by
  refine F.ok sc_node_span (fun vs H Q E h => ?_) (fun cdv A outer s H vs Q E hr h => ?_)
  · obtain ⟨a, vx, vy, Fn, ox, oy, b, rfl, _⟩ := h
    rfl
  · obtain ⟨a, vx, vy, Fn, ox, oy, b, rfl, ha, hox, hoy, fok, rx, ry, hb, k⟩ := h
    refine ⟨_, (pss_cons (ps_if (PW.pt (pw_or (pt_cmpR op_isN (pv 1) pe_non (nomark _)) (pw_or1 (pt_cmpR op_isN (pv 2) pe_non (nomark _)))))
    (pss_one (ps_ret pe_non))
    pss_nil)
   (pss_cons (ps_set (i := 3) sc_node_span.nd rfl (Or.inl rfl) (pe_own D_corner_values (hr.mono (by decide)) rfl (pa_cons (pv 0) (pa_cons (pe_own D_corner_pairs (hr.mono (by decide)) rfl (pa_cons (pv 1) (pa_cons (pv 2) pa_nil))) pa_nil))))
   (pss_cons (ps_if (pt_cmpR op_isN (pv 3) pe_non (nomark _))
    (pss_one (ps_ret pe_non))
    pss_nil)
   (pss_cons (ps_set (i := 4) sc_node_span.nd rfl (Or.inl rfl) (pe_ix ix_list (pv 3) pe_int (fun _ _ => rfl)))
   (pss_cons (ps_set (i := 5) sc_node_span.nd rfl (Or.inl rfl) (pe_ix ix_list (pv 3) pe_int (fun _ _ => rfl)))
   (pss_cons (ps_for PassesOwn.never rfl (pi_list (pv 3)) (pg_name (i := 6) sc_node_span.nd rfl (Or.inl rfl))
    (pss_cons (ps_if (pt_cmpR op_lt (pe_own D_compared (hr.mono (by decide)) rfl (pa_cons (pe_fld (pv 6) rfl) (pa_cons (pe_fld (pv 6) rfl) (pa_cons (pv 4) pa_nil)))) pe_int (nomark _))
    (pss_one (ps_set (i := 4) sc_node_span.nd rfl (Or.inl rfl) (pv 6)))
    pss_nil)
   (pss_one (ps_if (pt_cmpR op_gt (pe_own D_compared (hr.mono (by decide)) rfl (pa_cons (pe_fld (pv 6) rfl) (pa_cons (pe_fld (pv 6) rfl) (pa_cons (pv 5) pa_nil)))) pe_int (nomark _))
    (pss_one (ps_set (i := 5) sc_node_span.nd rfl (Or.inl rfl) (pv 6)))
    pss_nil))))
   (pss_one (ps_ret (pe_ownC I_Span (hr.mono (by decide)) rfl (pa_cons (pe_own D_node_end (hr.mono (by decide)) rfl (pa_cons (pv 1) (pa_cons (pv 2) (pa_cons (pv 3) (pa_cons (pv 4) pa_nil))))) (pa_cons (pe_own D_node_end (hr.mono (by decide)) rfl (pa_cons (pv 1) (pa_cons (pv 2) (pa_cons (pv 3) (pa_cons (pv 5) pa_nil))))) pa_nil))))))))))), ?_⟩
    match ox, oy, hox, hoy, rx, ry, k with
    | none, oy, hx, _, _, _, k =>
      have hx : vx = .non := hx
      subst hx
      refine ⟨_, rfl, rfl, _, rfl, ?_⟩
      rw [decide_eq_true rfl]
      exact iteT (k H .non none (Same.refl H) rfl (by cases oy <;> trivial))
    | some r, none, hx, hy, _, _, k =>
      obtain ⟨px, rfl, hx⟩ := hx
      have hy : vy = .non := hy
      subst hy
      refine ⟨_, rfl, rfl, _, rfl, ?_⟩
      rw [dec_rf]
      refine iteF ⟨_, rfl, rfl, _, rfl, ?_⟩
      rw [decide_eq_true rfl]
      exact iteT (k H .non none (Same.refl H) rfl trivial)
    | some r, some s2, hx, hy, rx, ry, k =>
      obtain ⟨px, rfl, hx⟩ := hx
      obtain ⟨py, rfl, hy⟩ := hy
      have rr := rx r rfl
      have rs := ry s2 rfl
      refine ⟨_, rfl, rfl, _, rfl, ?_⟩
      rw [dec_rf]
      refine iteF ⟨_, rfl, rfl, _, rfl, ?_⟩
      rw [dec_rf]
      refine iteF ?_
      obtain ⟨dx, xa, xb, hpx, hxa, hxb⟩ := id hx
      obtain ⟨dy, ya, yb, hpy, hya, hyb⟩ := id hy
      refine ⟨_, rfl, _, rfl, _, rfl, px, py, dx, dy, xa, xb, ya, yb, rfl, hpx, hpy, fun H1 l t1 t2 t3 t4 s1 hl h1 h2 h3 h4 => ?_⟩
      have bB : b ≤ BB := by omega
      have pairs : PairsAt CE H1 Fn r s2 l [.ref t1, .ref t2, .ref t3, .ref t4] := ⟨hl, rfl, fun i v hv => by
        match i, hv with
        | 0, hv => cases hv; exact ⟨t1, xa, ya, r.lo, s2.lo, _, _, rfl, h1, hxa.same s1, hya.same s1, rr.lo.mono bB, rs.lo.mono bB, rfl, rfl⟩
        | 1, hv => cases hv; exact ⟨t2, xa, yb, r.lo, s2.hi, _, _, rfl, h2, hxa.same s1, hyb.same s1, rr.lo.mono bB, rs.hi.mono bB, rfl, rfl⟩
        | 2, hv => cases hv; exact ⟨t3, xb, ya, r.hi, s2.lo, _, _, rfl, h3, hxb.same s1, hya.same s1, rr.hi.mono bB, rs.lo.mono bB, rfl, rfl⟩
        | 3, hv => cases hv; exact ⟨t4, xb, yb, r.hi, s2.hi, _, _, rfl, h4, hxb.same s1, hyb.same s1, rr.hi.mono bB, rs.hi.mono bB, rfl, rfl⟩
        | _ + 4, hv => cases hv⟩
      refine ⟨a, l, Fn, r, s2, _, rfl, s1 _ _ ha, pairs, fok, fun sf H2 sH2 => ?_, fun sf H2 c es sH2 hc => ?_⟩
      · refine ⟨_, rfl, rfl, _, rfl, ?_⟩
        rw [decide_eq_true rfl]
        refine iteT (k H2 .non none (s1.trans sH2) rfl ?_)
        show RepO none (Re04.image Fn r s2)
        rw [TQ.image_none sf]
        trivial
      · have cor := TQ.cors fok rr rs hb sf
        have sH := s1.trans sH2
        have im := TQ.image_some sf
        refine ⟨_, rfl, rfl, _, rfl, ?_⟩
        rw [dec_rf]
        refine iteF ?_
        obtain ⟨n0, n1, n2, n3, eA⟩ := four hc.ln
        obtain ⟨d0, d1, d2, d3, eB⟩ := four hc.ld
        rw [eA, eB] at hc cor
        obtain ⟨e0, e1, e2, e3, eE⟩ := four hc.le
        have hcl : H2 c = some (.lst ([e0, e1, e2, e3].map V.ref)) := by rw [← eE]; exact hc.lst
        refine ⟨_, rfl, c, _, _, .ref e0, rfl, rfl, SqL.of hcl, atI_nat (j := 0) rfl, ?_⟩
        refine ⟨_, rfl, c, _, _, .ref e0, rfl, rfl, SqL.of hcl, atI_nat (j := 0) rfl, ?_⟩
        have all : ∀ (j : Nat) (e : Addr) (q : Re04.Corner), es[j]? = some e → (Re04.corners Fn r s2)[j]? = some q → ∃ n d, EndAt CE H2 e n d false ∧ TQ.Cor q n d := fun j e q he hq => by
          have hj : j < 4 := by
            have := (List.getElem?_eq_some_iff.mp he).1
            rw [hc.le] at this
            exact this
          obtain ⟨n, hn⟩ : ∃ n, ([n0, n1, n2, n3] : List Int)[j]? = some n := ⟨_, List.getElem?_eq_getElem hj⟩
          obtain ⟨d, hd⟩ : ∃ d, ([d0, d1, d2, d3] : List Int)[j]? = some d := ⟨_, List.getElem?_eq_getElem hj⟩
          exact ⟨n, d, hc.at_ j e n d he hn hd, cor j q n d hq hn hd⟩
        refine ⟨_, rfl, c, rfl, ⟨_, SqL.of hcl⟩, for_list (K := K) (a := c) (xs := [e0, e1, e2, e3].map V.ref) (LpNode H2 a c (.ref px) (.ref py) es (Re04.corners Fn r s2) (Re04.value Fn r.lo s2.lo)) ⟨rfl, 0, 0, e0, e0, _, _, none, by rw [eE]; rfl, rfl, rfl, by rw [eE]; rfl, rfl, rfl, rfl⟩ ?_ ?_ ?_⟩
        · rintro i σ H' _ ⟨rfl, _⟩
          exact SqL.of hcl
        · rintro i v σ H' hv ⟨rfl, jl, jg, el, eg, cl, cg, v6, hel, hcl', hvl, heg, hcg, hvg, rfl⟩
          obtain ⟨ei, hei, rfl⟩ := map_getR hv
          rw [← eE] at hei
          have hi : i < 4 := by
            have := (List.getElem?_eq_some_iff.mp hei).1
            rw [hc.le] at this
            exact this
          obtain ⟨ci, hci⟩ : ∃ q, (Re04.corners Fn r s2)[i]? = some q := ⟨_, List.getElem?_eq_getElem hi⟩
          obtain ⟨ni, di, ⟨dzi, hzi⟩, ki⟩ := all i ei ci hei hci
          obtain ⟨nl, dl, hzl, kl⟩ := all jl el cl hel hcl'
          obtain ⟨ng, dg, hzg, kg⟩ := all jg eg cg heg hcg
          have tk : (Re04.corners Fn r s2).take (i + 1) = (Re04.corners Fn r s2).take i ++ [ci] := by
            rw [List.take_add_one, hci]
            rfl
          have ll := TQ.lt_of_is ki.red.pos kl.red.pos ki.pos kl.pos ki.is_ kl.is_
          have lg := TQ.lt_of_is kg.red.pos ki.red.pos kg.pos ki.pos kg.is_ ki.is_
          have sl := TQ.least_snoc ((Re04.corners Fn r s2).take i) (Re04.value Fn r.lo s2.lo) ci
          have sg := TQ.greatest_snoc ((Re04.corners Fn r s2).take i) (Re04.value Fn r.lo s2.lo) ci
          rw [← tk, ← hvl, ll] at sl
          rw [← tk, ← hvg, lg] at sg
          refine ⟨_, rfl, ei, CE, dzi, _, _, rfl, hzi, T.clE, T.eAbove, fE_above _ _ _, _, rfl, ei, CE, dzi, _, _, rfl, hzi, T.clE, T.eBelow, fE_below _ _ _, _, rfl, ?_⟩
          refine ⟨ni, di, el, nl, dl, false, rfl, hzl, bd_of ki.sn, bd_of ki.sd, bd_of kl.sn, bd_of kl.sd, _, _, rfl, rfl, _, rfl, ?_⟩
          by_cases c1 : ni * dl - nl * di < 0
          · rw [decide_eq_true c1]
            rw [if_pos (decide_eq_true (show ni * dl < nl * di by omega))] at sl
            refine iteT ⟨_, rfl, ?_⟩
            refine ⟨_, rfl, ei, CE, dzi, _, _, rfl, hzi, T.clE, T.eAbove, fE_above _ _ _, _, rfl, ei, CE, dzi, _, _, rfl, hzi, T.clE, T.eBelow, fE_below _ _ _, _, rfl, ?_⟩
            refine ⟨ni, di, eg, ng, dg, false, rfl, hzg, bd_of ki.sn, bd_of ki.sd, bd_of kg.sn, bd_of kg.sd, _, _, rfl, rfl, _, rfl, ?_⟩
            by_cases c2 : 0 < ni * dg - ng * di
            · rw [decide_eq_true c2]
              rw [if_pos (decide_eq_true (show ng * di < ni * dg by omega))] at sg
              exact iteT ⟨_, rfl, rfl, i, i, ei, ei, ci, ci, _, hei, hci, sl.symm, hei, hci, sg.symm, rfl⟩
            · rw [decide_eq_false c2]
              rw [if_neg (fun z => c2 (by have := of_decide_eq_true z; omega))] at sg
              exact iteF ⟨rfl, i, jg, ei, eg, ci, cg, _, hei, hci, sl.symm, heg, hcg, sg.symm, rfl⟩
          · rw [decide_eq_false c1]
            rw [if_neg (fun z => c1 (by have := of_decide_eq_true z; omega))] at sl
            refine iteF ?_
            refine ⟨_, rfl, ei, CE, dzi, _, _, rfl, hzi, T.clE, T.eAbove, fE_above _ _ _, _, rfl, ei, CE, dzi, _, _, rfl, hzi, T.clE, T.eBelow, fE_below _ _ _, _, rfl, ?_⟩
            refine ⟨ni, di, eg, ng, dg, false, rfl, hzg, bd_of ki.sn, bd_of ki.sd, bd_of kg.sn, bd_of kg.sd, _, _, rfl, rfl, _, rfl, ?_⟩
            by_cases c2 : 0 < ni * dg - ng * di
            · rw [decide_eq_true c2]
              rw [if_pos (decide_eq_true (show ng * di < ni * dg by omega))] at sg
              exact iteT ⟨_, rfl, rfl, jl, i, el, ei, cl, ci, _, hel, hcl', sl.symm, hei, hci, sg.symm, rfl⟩
            · rw [decide_eq_false c2]
              rw [if_neg (fun z => c2 (by have := of_decide_eq_true z; omega))] at sg
              exact iteF ⟨rfl, jl, jg, el, eg, cl, cg, _, hel, hcl', sl.symm, heg, hcg, sg.symm, rfl⟩
        · rintro σ H' ⟨rfl, jl, jg, el, eg, cl, cg, v6, hel, hcl', hvl, heg, hcg, hvg, rfl⟩
          have tk : (Re04.corners Fn r s2).take ([e0, e1, e2, e3].map V.ref).length = Re04.corners Fn r s2 := rfl
          rw [tk] at hvl hvg
          obtain ⟨nl, dl, hzl, kl⟩ := all jl el cl hel hcl'
          obtain ⟨ng, dg, hzg, kg⟩ := all jg eg cg heg hcg
          have q0 := cor 0 _ n0 d0 rfl rfl rfl
          have q1 := cor 1 _ n1 d1 rfl rfl rfl
          have q2 := cor 2 _ n2 d2 rfl rfl rfl
          have q3 := cor 3 _ n3 d3 rfl rfl rfl
          have bn : ∀ n ∈ ([n0, n1, n2, n3] : List Int), Bd n := by
            intro n m
            simp only [List.mem_cons, List.not_mem_nil, or_false] at m
            rcases m with rfl | rfl | rfl | rfl
            · exact bd_of q0.sn
            · exact bd_of q1.sn
            · exact bd_of q2.sn
            · exact bd_of q3.sn
          have bd : ∀ n ∈ ([d0, d1, d2, d3] : List Int), Bd n := by
            intro n m
            simp only [List.mem_cons, List.not_mem_nil, or_false] at m
            rcases m with rfl | rfl | rfl | rfl
            · exact bd_of q0.sd
            · exact bd_of q1.sd
            · exact bd_of q2.sd
            · exact bd_of q3.sd
          have tl := TQ.taken_eq Fn r s2 cl.v
          have tg := TQ.taken_eq Fn r s2 cg.v
          unfold TQ.atC at tl tg
          rw [← eqE_at q0 kl, ← eqE_at q1 kl, ← eqE_at q2 kl, ← eqE_at q3 kl] at tl
          rw [← eqE_at q0 kg, ← eqE_at q1 kg, ← eqE_at q2 kg, ← eqE_at q3 kg] at tg
          rw [← hvl, ← hvg] at im
          refine ⟨_, rfl, _, rfl, _, rfl, _, rfl, px, py, c, el, rawOf r, rawOf s2, es, n0, n1, n2, n3, d0, d1, d2, d3, nl, dl, false, rfl, hx.same sH, hy.same sH, hc, hzl, bn, bd, bd_of kl.sn, bd_of kl.sd, fun H3 u s3 hu => ?_⟩
          refine ⟨_, rfl, _, rfl, _, rfl, _, rfl, px, py, c, eg, rawOf r, rawOf s2, es, n0, n1, n2, n3, d0, d1, d2, d3, ng, dg, false, rfl, (hx.same sH).same s3, (hy.same sH).same s3, hc.same s3, hzg.same s3, bn, bd, bd_of kg.sn, bd_of kg.sd, fun H4 z s4 hz => ?_⟩
          intro p dp np ndp nep
          refine ⟨p, dp, u, z, rfl, upd_same, fun H5 hp kp => ⟨rfl, ?_⟩⟩
          have s5 : Same H4 H5 := Same.made np ndp kp
          have hu : EndAt CE H3 u nl dl (Re04.taken (Re04.corners Fn r s2) cl.v) := by rw [tl]; exact hu
          have hz : EndAt CE H4 z ng dg (Re04.taken (Re04.corners Fn r s2) cg.v) := by rw [tg]; exact hz
          refine k H5 (.ref p) (some ⟨nl, dl, Re04.taken (Re04.corners Fn r s2) cl.v, ng, dg, Re04.taken (Re04.corners Fn r s2) cg.v⟩) (((sH.trans s3).trans s4).trans s5) ⟨p, rfl, dp, u, z, hp, (hu.same s4).same s5, hz.same s5⟩ ?_
          show RepO _ (Re04.image Fn r s2)
          rw [im]
          exact ⟨TQ.image_rep fok rr rs im kl rfl kg rfl, sure_short (TQ.image_rg fok rr rs im) hb⟩
end
end Sv

set_option Elab.async false
set_option maxRecDepth 100000
set_option maxHeartbeats 2000000
namespace Sv
open PySem PySem.Spec PyProof.Rows L2 Hb
open PySem.W (Codec)
open Re04 (Item Known)
open TQ (Sn Rep BB swp wpg lies rawOf CanE Tail RepO sureOf KR knownOf)
/-- the spans of the items ahead, as a node takes them -/
structure SpansAt (CE CP : Addr) (H : Hp) (ws : List V) (m : List (Known × Option Re04.Range)) : Prop where
  len : ws.length = m.length
  at_ : ∀ (j : Nat) (v : V) (k : Known) (o : Option Re04.Range), ws[j]? = some v → m[j]? = some (k, o) → OptAt CE CP H v (k.range.map rawOf) ∧ KR j k o
theorem SpansAt.same {CE CP : Addr} {H H' : Hp} {ws : List V} {m : List (Known × Option Re04.Range)} (x : SpansAt CE CP H ws m) (s : Same H H') : SpansAt CE CP H' ws m := ⟨x.len, fun j v k o h1 h2 => ⟨(x.at_ j v k o h1 h2).1.same s, (x.at_ j v k o h1 h2).2⟩⟩
theorem OptAt.put {CE CP : Addr} {H : Hp} {v : V} {o : Option Sn} {p : Addr} {xs ys : List V} (x : OptAt CE CP H v o) (hp : H p = some (.lst xs)) : OptAt CE CP (upd H p (.lst ys)) v o := by
  cases o with
  | none => exact x
  | some S =>
    obtain ⟨q, rfl, dx, a, b, hq, ⟨da, ha⟩, ⟨db, hb⟩⟩ := x
    exact ⟨q, rfl, dx, a, b, by rw [upd_ne (ne_of hq hp (by intro z; cases z))]; exact hq, ⟨da, by rw [upd_ne (ne_of ha hp (by intro z; cases z))]; exact ha⟩, ⟨db, by rw [upd_ne (ne_of hb hp (by intro z; cases z))]; exact hb⟩⟩
theorem bits_step {i : Nat} (h : i ≤ 7) (h0 : 0 < i) : 2 * TQ.bits (i - 1) + 12 ≤ BB := by
  have a := TQ.bits_le i 7 h
  have e : TQ.bits i = 2 * TQ.bits (i - 1) + 16 := by
    obtain ⟨j, rfl⟩ : ∃ j, i = j + 1 := ⟨i - 1, by omega⟩
    rfl
  unfold BB
  omega
theorem ko_ks {k : Known} (h : TQ.KOk k) : KS k := ⟨h.tail, h.ended, fun r e => (TQ.stream_kr h 7).own r e⟩
theorem kr_ks {i : Nat} {k : Known} {o : Option Re04.Range} (h : KR i k o) (hi : i ≤ 7) : KS k := ⟨h.tail, h.ended, fun r e => (h.own r e).mono (TQ.bits_le i 7 hi)⟩
theorem ks_rep {k : Known} (h : KS k) : RepO (k.range.map rawOf) k.range := by
  cases e : k.range with
  | none => trivial
  | some r =>
    have rg := h.own r e
    exact ⟨TQ.rep_raw rg (Nat.le_refl _) (TQ.range_one h.tail h.can e), sure_short rg (Nat.le_refl _)⟩
section
variable {P : Program} {w : World} {K : PySem.W.Frag} {mg : Str → Option Value} {base : Heap} {CE CP CS CN CH : Addr}
def spEntry (CE CP CS CN : Addr) : Sp := fun vs H Q _ => ∃ (a t l : Addr) (it : Item) (m : List (Known × Option Re04.Range)) (ws : List V), vs = [.ref a, .ref l] ∧ ItemAt CS CN H a t it ∧ TQ.IOk m.length it ∧ m.length ≤ 7 ∧ H l = some (.lst ws) ∧ SpansAt CE CP H ws m ∧
  ∀ (H' : Hp) (v : V) (o : Option Sn), Same H H' → OptAt CE CP H' v o → RepO o (knownOf m it).2 → (∀ k, it = .stream k → o = k.range.map rawOf) → Q v H'
theorem fN_x (x y : Int) (t : Addr) : (fN x y t).lookup ("x" : Str) = some (.int x) := lk_here
theorem fN_y (x y : Int) (t : Addr) : (fN x y t).lookup ("y" : Str) = some (.int y) := (lk_past (by decide +kernel)).trans lk_here
theorem fN_f (x y : Int) (t : Addr) : (fN x y t).lookup ("factors" : Str) = some (.ref t) := (lk_past (by decide +kernel)).trans ((lk_past (by decide +kernel)).trans lk_here)
theorem known_node {m : List (Known × Option Re04.Range)} {F : Re04.Fun} {x y : Nat} {kx ky : Known} {ox oy : Option Re04.Range} (hx : m[x]? = some (kx, ox)) (hy : m[y]? = some (ky, oy)) : (knownOf m (.node F x y)).2 = imgO F kx.range ky.range ∧ (knownOf m (.node F x y)).1 = sureOf (knownOf m (.node F x y)).2 := by
  have g1 : m.getD x (⟨[], false⟩, none) = (kx, ox) := by rw [List.getD_eq_getElem?_getD, hx]; rfl
  have g2 : m.getD y (⟨[], false⟩, none) = (ky, oy) := by rw [List.getD_eq_getElem?_getD, hy]; rfl
  unfold knownOf
  simp only [g1, g2]
  cases kx.range with
  | none => exact ⟨rfl, rfl⟩
  | some r =>
    cases ky.range with
    | none => exact ⟨rfl, rfl⟩
    | some s =>
      simp only [imgO]
      cases Re04.image F r s with
      | none => exact ⟨rfl, rfl⟩
      | some t => exact ⟨rfl, rfl⟩
theorem sc_entry_span : FnScope ["entry", "spans"] ["entry", "spans"] (defScope s_entry_span) := ⟨rfl, rfl, rfl, by decide +kernel, rfl, by decide +kernel, by decide +kernel⟩
theorem ok_entry {f : Addr} {fd : FuncData} (F : Fun K "entry_span" "entry_span" s_entry_span f fd) (T : Txt K mg CE CP CS CN CH) (D_stream_span : Has P w K mg base "stream_span" 4 ["stream"] (spStrSpan CE CP CS)) (D_node_span : Has P w K mg base "node_span" 4 ["factors", "x", "y"] (spNodeSpan CE CP)) :
    FnOk P w K mg base CX0 5 f fd ["entry", "spans"] (spEntry CE CP CS CN) := by
  refine F.ok sc_entry_span (fun vs H Q E h => ?_) (fun cdv A outer s H vs Q E hr h => ?_)
  · obtain ⟨a, t, l, it, m, ws, rfl, _⟩ := h
    rfl
  · obtain ⟨a, t, l, it, m, ws, rfl, hit, iok, hm, hl, sp, k⟩ := h
    refine ⟨_, (pss_cons (ps_if (pt_val (pe_callB call_isi (by rfl) T.n_isinstance (by decide +kernel) (pa_cons (pv 0) (pa_cons (pe_glob (v := .ref _) rfl T.g_Stream rfl) pa_nil))))
    (pss_one (ps_ret (pe_own D_stream_span (hr.mono (by decide)) rfl (pa_cons (pv 0) pa_nil))))
    pss_nil)
   (pss_one (ps_ret (pe_own D_node_span (hr.mono (by decide)) rfl (pa_cons (pe_fld (pv 0) rfl) (pa_cons (pe_ix ix_list (pv 1) (pe_fld (pv 0) rfl) (fun _ _ => rfl)) (pa_cons (pe_ix ix_list (pv 1) (pe_fld (pv 0) rfl) (fun _ _ => rfl)) pa_nil))))))), ?_⟩
    cases it with
    | stream kn =>
      obtain ⟨⟨da, ea⟩, et⟩ := hit
      refine ⟨_, rfl, .ref a, .ref CS, .ref CS, .ref CS, true, rfl, .own CS, T.tyS H a da _ ea, T.isSS, _, rfl, ?_⟩
      refine iteT ⟨_, rfl, a, t, da, kn, rfl, ea, et, ko_ks iok, fun H' v sH hv => ?_⟩
      exact k H' v _ sH hv (ks_rep (ko_ks iok)) fun k2 e => by cases e; rfl
    | node Fn x y =>
      obtain ⟨⟨da, ea⟩, et⟩ := hit
      obtain ⟨fok, hx, hy⟩ := iok
      refine ⟨_, rfl, .ref a, .ref CS, .ref CN, .ref CS, false, rfl, .own CS, T.tyN H a da _ ea, T.isNS, _, rfl, ?_⟩
      refine iteF ?_
      obtain ⟨kx, ekx⟩ : ∃ q, m[x]? = some q := ⟨_, List.getElem?_eq_getElem hx⟩
      obtain ⟨ky, eky⟩ : ∃ q, m[y]? = some q := ⟨_, List.getElem?_eq_getElem hy⟩
      obtain ⟨kx, ox⟩ := kx
      obtain ⟨ky, oy⟩ := ky
      obtain ⟨vx, evx⟩ : ∃ q, ws[x]? = some q := ⟨_, List.getElem?_eq_getElem (by rw [sp.len]; exact hx)⟩
      obtain ⟨vy, evy⟩ : ∃ q, ws[y]? = some q := ⟨_, List.getElem?_eq_getElem (by rw [sp.len]; exact hy)⟩
      obtain ⟨oX, kX⟩ := sp.at_ x vx kx ox evx ekx
      obtain ⟨oY, kY⟩ := sp.at_ y vy ky oy evy eky
      refine ⟨_, rfl, a, CN, da, _, _, rfl, ea, T.clN, T.nF, fN_f _ _ _, ?_⟩
      refine ⟨_, rfl, _, rfl, a, CN, da, _, _, rfl, ea, T.clN, T.nX, fN_x _ _ _, l, _, _, vx, rfl, rfl, SqL.of hl, atI_nat evx, ?_⟩
      refine ⟨_, rfl, _, rfl, a, CN, da, _, _, rfl, ea, T.clN, T.nY, fN_y _ _ _, l, _, _, vy, rfl, rfl, SqL.of hl, atI_nat evy, ?_⟩
      have kn := known_node (F := Fn) ekx eky
      refine ⟨t, vx, vy, Fn, kx.range, ky.range, TQ.bits (m.length - 1), rfl, et, oX, oY, fok, fun r e => (kX.own r e).mono (TQ.bits_le _ _ (by omega)), fun r e => (kY.own r e).mono (TQ.bits_le _ _ (by omega)), bits_step hm (by omega), fun H' v o sH hv ho => ?_⟩
      exact k H' v o sH hv (by rw [kn.1]; exact ho) fun k2 e => by cases e
/-! ### item_span -/
def spItemSpan (CE CP CS CN CH : Addr) : Sp := fun vs H Q _ => ∃ (h l : Addr) (as ts : List Addr) (items : List Item) (n : Nat) (kn : Known) (q : Option Re04.Range), vs = [.ref l, .int n] ∧ HouseAt CS CN CH H h l as ts items ∧ TQ.St ⟨items⟩ ∧ (Re04.knowns items)[n]? = some (kn, q) ∧
  ∀ (H' : Hp) (v : V) (o : Option Sn), Same H H' → OptAt CE CP H' v o → RepO o q → Q v H'
def LpItem (CE CP : Addr) (H : Hp) (l p sp : Addr) (n : Nat) (items : List Item) (as : List Addr) (i : Nat) (σ : L2.St) (H' : Hp) : Prop := ∃ (ws : List V) (v3 v4 : Option V), Same H H' ∧ H' p = some (.lst ((as.take n).map V.ref)) ∧ H' sp = some (.lst ws) ∧ SpansAt CE CP H' ws ((Re04.knowns items).take i) ∧
  σ = [some (.ref l), some (.int n), some (.ref sp), v3, v4]
theorem cut_to (as : List Addr) (n : Nat) (h : n ≤ as.length) : cutV (as.map V.ref) none (some (n : Int)) = (as.take n).map V.ref := by
  unfold cutV
  rw [HT.sIx_none, HT.sIx_nat, List.length_map, Nat.min_eq_left h, List.map_take]
  rfl
theorem take_snoc {α : Type} {l : List α} {i : Nat} {x : α} (h : l[i]? = some x) : l.take (i + 1) = l.take i ++ [x] := by
  rw [List.take_add_one, h]
  rfl
theorem SpansAt.snoc {CE CP : Addr} {H : Hp} {ws : List V} {m : List (Known × Option Re04.Range)} {v : V} {k : Known} {o : Option Re04.Range} (x : SpansAt CE CP H ws m) (hv : OptAt CE CP H v (k.range.map rawOf)) (hk : KR m.length k o) : SpansAt CE CP H (ws ++ [v]) (m ++ [(k, o)]) := by
  refine ⟨by simp [x.len], fun j v' k' o' h1 h2 => ?_⟩
  by_cases c : j < m.length
  · rw [List.getElem?_append_left (by rw [x.len]; exact c)] at h1
    rw [List.getElem?_append_left c] at h2
    exact x.at_ j v' k' o' h1 h2
  · rw [List.getElem?_append_right (by rw [x.len]; omega), x.len] at h1
    rw [List.getElem?_append_right (by omega)] at h2
    have z : j - m.length = 0 := by
      have := (List.getElem?_eq_some_iff.mp h2).1
      simp at this
      omega
    rw [z] at h1 h2
    have ej : j = m.length := by omega
    cases h1
    cases h2
    rw [ej]
    exact ⟨hv, hk⟩
theorem SpansAt.put {CE CP : Addr} {H : Hp} {ws : List V} {m : List (Known × Option Re04.Range)} {p : Addr} {xs ys : List V} (x : SpansAt CE CP H ws m) (hp : H p = some (.lst xs)) : SpansAt CE CP (upd H p (.lst ys)) ws m := ⟨x.len, fun j v k o h1 h2 => ⟨(x.at_ j v k o h1 h2).1.put hp, (x.at_ j v k o h1 h2).2⟩⟩
theorem sc_item_span : FnScope ["entries", "item", "spans", "entry", "span"] ["entries", "item"] (defScope s_item_span) := ⟨rfl, rfl, rfl, by decide +kernel, rfl, by decide +kernel, by decide +kernel⟩
theorem ok_itemspan {f : Addr} {fd : FuncData} (F : Fun K "item_span" "item_span" s_item_span f fd) (T : Txt K mg CE CP CS CN CH) (D_entry_span : Has P w K mg base "entry_span" 5 ["entry", "spans"] (spEntry CE CP CS CN)) (D_stream_span : Has P w K mg base "stream_span" 4 ["stream"] (spStrSpan CE CP CS)) (D_sure_stream : Has P w K mg base "sure_stream" 36 ["span"] (spSureStr CE CP CS)) :
    FnOk P w K mg base CX0 37 f fd ["entries", "item"] (spItemSpan CE CP CS CN CH) := by
  refine F.ok sc_item_span (fun vs H Q E h => ?_) (fun cdv A outer s H vs Q E hr h => ?_)
  · obtain ⟨h, l, as, ts, items, n, kn, q, rfl, _⟩ := h
    rfl
  · obtain ⟨h, l, as, ts, items, n, kn, q, rfl, X, st, hk, k⟩ := h
    refine ⟨_, (pss_cons (ps_set (i := 2) sc_item_span.nd rfl (Or.inl rfl) (pe_lst pa_nil))
   (pss_cons (ps_for PassesOwn.never rfl (pi_list (pe_slice sl_list (pv 0) po_none (po_some (pv 1)))) (pg_name (i := 3) sc_item_span.nd rfl (Or.inl rfl))
    (pss_cons (ps_set (i := 4) sc_item_span.nd rfl (Or.inl rfl) (pe_own D_entry_span (hr.mono (by decide)) rfl (pa_cons (pv 3) (pa_cons (pv 2) pa_nil))))
   (pss_cons (ps_if (pt_val (pe_callB call_isi (by rfl) T.n_isinstance (by decide +kernel) (pa_cons (pv 3) (pa_cons (pe_glob (v := .ref _) rfl T.g_Node rfl) pa_nil))))
    (pss_one (ps_set (i := 4) sc_item_span.nd rfl (Or.inl rfl) (pe_own D_stream_span (hr.mono (by decide)) rfl (pa_cons (pe_own D_sure_stream (hr.mono (by decide)) rfl (pa_cons (pv 4) pa_nil)) pa_nil))))
    pss_nil)
   (pss_one (ps_expr (pe_bm PySem.F.plainAttrs_list PySem.F.slot_list_append PySem.F.type_list_append mt_append (pv 2) (pa_cons (pv 4) pa_nil)))))))
   (pss_one (ps_ret (pe_own D_entry_span (hr.mono (by decide)) rfl (pa_cons (pe_ix ix_list (pv 0) (pv 1) (fun _ _ => rfl)) (pa_cons (pv 2) pa_nil))))))), ?_⟩
    have nlt : n < items.length := by
      have := (List.getElem?_eq_some_iff.mp hk).1
      rwa [TQ.knowns_len] at this
    have most : items.length ≤ 8 := st.most
    -- spans = []
    refine ⟨Nat.zero_le _, fun sp nsp => ?_⟩
    have s0 : Same H (upd H sp (.lst [])) := same_upd nsp
    have hsp : upd H sp (.lst []) sp = some (.lst []) := upd_same
    generalize upd H sp (.lst []) = H0 at *
    -- entries[:item]
    refine ⟨_, rfl, _, rfl, _, rfl, l, _, rfl, SqL.of (s0 _ _ X.lst), fun p np => ?_⟩
    rw [cut_to as n (by rw [X.la]; omega)]
    have s1 : Same H0 (upd H0 p (.lst ((as.take n).map V.ref))) := same_upd np
    have hp : upd H0 p (.lst ((as.take n).map V.ref)) p = some (.lst ((as.take n).map V.ref)) := upd_same
    have npsp : p ≠ sp := fun z => by rw [z, hsp] at np; cases np
    generalize upd H0 p (.lst ((as.take n).map V.ref)) = H1 at *
    have ltk : ((as.take n).map V.ref).length = n := by rw [List.length_map, List.length_take, X.la]; omega
    refine ⟨p, rfl, ⟨_, SqL.of hp⟩, for_list (K := K) (a := p) (xs := (as.take n).map V.ref) (LpItem CE CP H l p sp n items as) ⟨[], none, none, s0.trans s1, hp, s1 _ _ hsp, ⟨rfl, fun j v k o h => by cases h⟩, rfl⟩ ?_ ?_ ?_⟩
    · rintro i σ H' _ ⟨ws, v3, v4, _, hp', _⟩
      exact SqL.of hp'
    · rintro i v σ H' hv ⟨ws, v3, v4, sH, hp', hsp', spa, rfl⟩
      obtain ⟨a, ha, rfl⟩ := map_getR hv
      have hi : i < n := by
        have := (List.getElem?_eq_some_iff.mp hv).1
        rwa [ltk] at this
      rw [List.getElem?_take, if_pos hi] at ha
      obtain ⟨it, hit⟩ : ∃ it, items[i]? = some it := ⟨_, List.getElem?_eq_getElem (by omega)⟩
      obtain ⟨t, ht⟩ : ∃ t, ts[i]? = some t := ⟨_, List.getElem?_eq_getElem (by rw [X.lt]; omega)⟩
      have hat := (X.at_ i a t it ha ht hit).same sH
      have kat := TQ.knowns_at hit
      have lm : ((Re04.knowns items).take i).length = i := by rw [List.length_take, TQ.knowns_len]; omega
      generalize hm : (Re04.knowns items).take i = m at *
      have iok : TQ.IOk m.length it := by rw [lm]; exact st.good i it hit
      have kr : KR i (knownOf m it).1 (knownOf m it).2 := TQ.Good.knowns st.good i _ _ kat
      have tks := take_snoc kat
      rw [hm] at tks
      -- span = entry_span(entry, spans)
      refine ⟨_, rfl, _, rfl, a, t, sp, it, m, ws, rfl, hat, iok, by omega, hsp', spa, fun H2 v o sH2 hv2 ho hstr => ?_⟩
      have hat2 := hat.same sH2
      have lenw : ws.length < sizeLine := by rw [spa.len, lm]; exact Nat.lt_of_lt_of_le (show i < 8 by omega) (by decide)
      have fin : ∀ (H3 : Hp) (u : V), Same H2 H3 → OptAt CE CP H3 u ((knownOf m it).1.range.map rawOf) → LpItem CE CP H l p sp n items as (i + 1) [some (.ref l), some (.int n), some (.ref sp), some (.ref a), some u] (upd H3 sp (.lst (ws ++ [u]))) := fun H3 u s3 hu => by
        have hsp3 := s3 _ _ (sH2 _ _ hsp')
        refine ⟨ws ++ [u], some (.ref a), some u, same_put ((sH.trans sH2).trans s3) nsp, ?_, upd_same, ?_, rfl⟩
        · rw [upd_ne npsp]
          exact s3 _ _ (sH2 _ _ hp')
        · rw [tks]
          exact (((spa.same sH2).same s3).put hsp3).snoc (hu.put hsp3) (by rw [lm]; exact kr)
      cases it with
      | stream k0 =>
        obtain ⟨⟨da, ea⟩, et⟩ := hat2
        refine ⟨_, rfl, .ref a, .ref CN, .ref CS, .ref CN, false, rfl, .own CN, T.tyS H2 a da _ ea, T.isSN, _, rfl, ?_⟩
        refine iteF ?_
        have eo := hstr k0 rfl
        subst eo
        refine ⟨_, rfl, .inl ⟨rfl, _, SqL.of (sH2 _ _ hsp')⟩, _, rfl, sp, _, _, rfl, rfl, sH2 _ _ hsp', lenw, ?_⟩
        exact fin H2 v (Same.refl H2) hv2
      | node Fn x y =>
        obtain ⟨⟨da, ea⟩, et⟩ := hat2
        refine ⟨_, rfl, .ref a, .ref CN, .ref CN, .ref CN, true, rfl, .own CN, T.tyN H2 a da _ ea, T.isNN, _, rfl, ?_⟩
        refine iteT ?_
        -- span = stream_span(sure_stream(span))
        refine ⟨_, rfl, v, o, _, rfl, hv2, ho, fun H3 b tb db s3 nb ntb hb htb => ?_⟩
        have es : (knownOf m (.node Fn x y)).1 = sureOf (knownOf m (.node Fn x y)).2 := by
          obtain ⟨_, hx, hy⟩ := iok
          obtain ⟨kx, ekx⟩ : ∃ q, m[x]? = some q := ⟨_, List.getElem?_eq_getElem hx⟩
          obtain ⟨ky, eky⟩ : ∃ q, m[y]? = some q := ⟨_, List.getElem?_eq_getElem hy⟩
          obtain ⟨kx, ox⟩ := kx
          obtain ⟨ky, oy⟩ := ky
          exact (known_node ekx eky).2
        rw [← es] at hb htb
        refine ⟨b, tb, db, _, rfl, hb, htb, kr_ks kr (by omega), fun H4 u s4 hu => ?_⟩
        have hsp4 := s4 _ _ (s3 _ _ (sH2 _ _ hsp'))
        refine ⟨_, rfl, .inl ⟨rfl, _, SqL.of hsp4⟩, _, rfl, sp, _, _, rfl, rfl, hsp4, lenw, ?_⟩
        exact fin H4 u (s3.trans s4) hu
    · rintro σ H' ⟨ws, v3, v4, sH, hp', hsp', spa, rfl⟩
      rw [ltk] at spa
      obtain ⟨it, hit⟩ : ∃ it, items[n]? = some it := ⟨_, List.getElem?_eq_getElem nlt⟩
      obtain ⟨a, t, ha, ht, hat⟩ := X.get hit
      have kat := TQ.knowns_at hit
      rw [hk] at kat
      have kat := Option.some.inj kat
      have lm : ((Re04.knowns items).take n).length = n := by rw [List.length_take, TQ.knowns_len]; omega
      refine ⟨_, rfl, _, rfl, l, _, _, .ref a, rfl, rfl, SqL.of (sH _ _ X.lst), atI_nat (by rw [List.getElem?_map, ha]; rfl), _, rfl, ?_⟩
      refine ⟨a, t, sp, it, _, ws, rfl, hat.same sH, by rw [lm]; exact st.good n it hit, by omega, hsp', spa, fun H2 v o sH2 hv2 ho _ => ?_⟩
      rw [← kat] at ho
      exact k H2 v o (sH.trans sH2) hv2 ho
/-! ### ten_times -/
def spTen : Sp := fun vs H Q _ => ∃ (n : Nat), vs = [.int n] ∧ n ≤ 30 ∧ Q (.int (10 ^ n)) H
theorem ten_bd {n : Nat} (h : n ≤ 30) : ((10 : Int) ^ n).natAbs < 2 ^ 200 := by
  have e : ((10 : Int) ^ n).natAbs = 10 ^ n := by
    rw [Int.natAbs_pow]
    rfl
  rw [e]
  exact Nat.lt_of_le_of_lt (Nat.pow_le_pow_right (by omega) h) (by decide)
theorem sc_ten_times : FnScope ["count", "product", "step"] ["count"] (defScope s_ten_times) := ⟨rfl, rfl, rfl, by decide +kernel, rfl, by decide +kernel, by decide +kernel⟩
theorem ok_ten {f : Addr} {fd : FuncData} (F : Fun K "ten_times" "ten_times" s_ten_times f fd) (T : Txt K mg CE CP CS CN CH) : FnOk P w K mg base CX0 1 f fd ["count"] spTen := by
  refine F.ok sc_ten_times (fun vs H Q E h => ?_) (fun cdv A outer s H vs Q E hr h => ?_)
  · obtain ⟨n, rfl, _⟩ := h
    rfl
  · obtain ⟨n, rfl, hn, k⟩ := h
    refine ⟨_, (pss_cons (ps_set (i := 1) sc_ten_times.nd rfl (Or.inl rfl) pe_int)
   (pss_cons (ps_for PassesOwn.never rfl (pi_range1 (by rfl) T.n_range (pa_cons (pv 0) pa_nil)) (pg_name (i := 2) sc_ten_times.nd rfl (Or.inl rfl))
    (pss_one (ps_set (i := 1) sc_ten_times.nd rfl (Or.inl rfl) (pe_op op_mulW (pv 1) pe_int))))
   (pss_one (ps_ret (pv 1))))), ?_⟩
    refine ⟨_, rfl, (n : Int), rfl, by omega, by omega, ?_⟩
    rw [Int.toNat_natCast]
    refine for_range (lo := 0) (n := n) (fun i σ H' => H' = H ∧ ∃ v2 : Option V, σ = [some (.int n), some (.int (10 ^ i)), v2]) ⟨rfl, none, rfl⟩ ?_ ?_
    · rintro i σ H' hi ⟨rfl, v2, rfl⟩
      refine ⟨_, rfl, _, _, rfl, rfl, (bd_small (ten_bd (show i ≤ 30 by omega))).mul (bd_small (show (10 : Int).natAbs < 2 ^ 200 by decide)), rfl, some (.int ((0 : Int) + (i : Int))), ?_⟩
      rw [Int.pow_succ]
      rfl
    · rintro σ H' ⟨rfl, v2, rfl⟩
      exact ⟨_, rfl, k⟩
end
end Sv

set_option Elab.async false
set_option maxRecDepth 100000
set_option maxHeartbeats 2000000
namespace Sv
open PySem PySem.Spec PyProof.Rows L2 Hb
open PySem.W (Codec)
open Re04 (Item Known)
section
variable {P : Program} {w : World} {K : PySem.W.Frag} {mg : Str → Option Value} {base : Heap} {CE CP CS CN CH : Addr}
/-! ### new items, a new house -/
def spInitN (CN : Addr) : Sp := fun vs H Q _ => ∃ (p dx t : Addr) (x y : Int), vs = [.ref p, .int x, .int y, .ref t] ∧ H p = some (.ins CN dx []) ∧
  ∀ (H' : Hp), H' p = some (.ins CN dx (fN x y t)) → (∀ b o, H b = some o → b ≠ p → H' b = some o) → Q .non H'
theorem sc_Node_init : FnScope ["self", "x", "y", "factors"] ["self", "x", "y", "factors"] (defScope s_Node_init) := ⟨rfl, rfl, rfl, by decide +kernel, rfl, by decide +kernel, by decide +kernel⟩
theorem ok_initN {f : Addr} {fd : FuncData} (F : Fun K "__init__" "Node.__init__" s_Node_init f fd) (T : Txt K mg CE CP CS CN CH) : FnOk P w K mg base CX0 1 f fd ["self", "x", "y", "factors"] (spInitN CN) := by
  refine F.ok sc_Node_init (fun vs H Q E h => ?_) (fun cdv A outer s H vs Q E hr h => ?_)
  · obtain ⟨p, dx, t, x, y, rfl, _⟩ := h
    rfl
  · obtain ⟨p, dx, t, x, y, rfl, hp, k⟩ := h
    refine ⟨_, (pss_cons (ps_fld (pv 0) (pv 1) rfl)
   (pss_cons (ps_fld (pv 0) (pv 2) rfl)
   (pss_one (ps_fld (pv 0) (pv 3) rfl)))), ?_⟩
    refine ⟨_, rfl, _, rfl, p, CN, dx, [], rfl, hp, T.clN, T.nX, (by show 0 < 1000; decide), ?_⟩
    refine ⟨_, rfl, _, rfl, p, CN, dx, _, rfl, upd_same, T.clN, T.nY, (by show 1 < 1000; decide), ?_⟩
    refine ⟨_, rfl, _, rfl, p, CN, dx, _, rfl, upd_same, T.clN, T.nF, ?_, ?_⟩
    · have e1 : putF "y" (V.int y) (putF "x" (.int x) []) = ([("x", .int x), ("y", .int y)] : List (Str × V)) := (put_past (by decide +kernel)).trans rfl
      rw [e1]
      show 2 < 1000
      decide
    refine k _ ?_ ?_
    · rw [upd_same]
      exact congrArg (fun q => some (HO.ins CN dx q)) (fN_new x y t)
    · intro b o e hb
      rw [upd_ne hb, upd_ne hb, upd_ne hb]
      exact e
def spInitH (CH : Addr) : Sp := fun vs H Q _ => ∃ (p dx : Addr), vs = [.ref p] ∧ H p = some (.ins CH dx []) ∧
  ∀ (H' : Hp) (l : Addr), H l = none → H' p = some (.ins CH dx (fH l)) → H' l = some (.lst []) → (∀ b o, H b = some o → b ≠ p → H' b = some o) → Q .non H'
theorem sc_House_init : FnScope ["self"] ["self"] (defScope s_House_init) := ⟨rfl, rfl, rfl, by decide +kernel, rfl, by decide +kernel, by decide +kernel⟩
theorem ok_initH {f : Addr} {fd : FuncData} (F : Fun K "__init__" "House.__init__" s_House_init f fd) (T : Txt K mg CE CP CS CN CH) : FnOk P w K mg base CX0 1 f fd ["self"] (spInitH CH) := by
  refine F.ok sc_House_init (fun vs H Q E h => ?_) (fun cdv A outer s H vs Q E hr h => ?_)
  · obtain ⟨p, dx, rfl, _⟩ := h
    rfl
  · obtain ⟨p, dx, rfl, hp, k⟩ := h
    refine ⟨_, (pss_one (ps_fld (pv 0) (pe_lst pa_nil) rfl)), ?_⟩
    refine ⟨Nat.zero_le _, fun t nt => ?_⟩
    have np : p ≠ t := ne_of_none hp nt
    refine ⟨_, rfl, p, CH, dx, [], rfl, ?_, T.clH, T.hE, (by show 0 < 1000; decide), ?_⟩
    · rw [upd_ne np]
      exact hp
    refine k _ t nt upd_same ?_ ?_
    · rw [upd_ne (Ne.symm np), upd_same]
    · intro b o e hb
      rw [upd_ne hb, upd_ne (ne_of_none e nt)]
      exact e
/-! ### put, begin, stream -/
def spPut (CS CN CH : Addr) : Sp := fun vs H Q _ => ∃ (h l a t : Addr) (as ts : List Addr) (items : List Item) (it : Item), vs = [.ref h, .ref a] ∧ HouseAt CS CN CH H h l as ts items ∧ items.length ≤ 8 ∧ ItemAt CS CN H a t it ∧ a ∉ as ∧ t ∉ l :: ts ∧
  ∀ (H' : Hp) (p : Addr), HouseAt CS CN CH H' h l (as ++ [a]) (ts ++ [t]) (items ++ [it]) → Kept (fun b => b = l) H H' → H p = none → H' p = some (.lst [.int items.length]) → Q (.ref p) H'
theorem HouseAt.put {H : Hp} {h l a t : Addr} {as ts : List Addr} {items : List Item} {it : Item} (X : HouseAt CS CN CH H h l as ts items) (z : ItemAt CS CN H a t it) (na : a ∉ as) (nt : t ∉ l :: ts) :
    HouseAt CS CN CH (upd H l (.lst ((as ++ [a]).map V.ref))) h l (as ++ [a]) (ts ++ [t]) (items ++ [it]) := by
  have key : ∀ (a' t' : Addr) (it' : Item), ItemAt CS CN H a' t' it' → t' ≠ l → ItemAt CS CN (upd H l (.lst ((as ++ [a]).map V.ref))) a' t' it' := by
    intro a' t' it' q n
    cases it' with
    | stream k =>
      obtain ⟨⟨dx, e⟩, e2⟩ := q
      exact ⟨⟨dx, by rw [upd_ne (ne_of e X.lst (by intro q; cases q))]; exact e⟩, by rw [upd_ne n]; exact e2⟩
    | node F u v =>
      obtain ⟨⟨dx, e⟩, e2⟩ := q
      exact ⟨⟨dx, by rw [upd_ne (ne_of e X.lst (by intro q; cases q))]; exact e⟩, by rw [upd_ne n]; exact e2⟩
  have nl : t ≠ l := fun q => nt (by rw [q]; simp)
  have ntt : t ∉ ts := fun q => nt (by simp [q])
  refine ⟨?_, upd_same, by simp [X.la], by simp [X.lt], ?_, ?_, ?_⟩
  · obtain ⟨dx, e⟩ := X.own
    exact ⟨dx, by rw [upd_ne (ne_of e X.lst (by intro q; cases q))]; exact e⟩
  · rw [List.nodup_append]
    refine ⟨X.nda, by simp, ?_⟩
    intro u hu v hv q
    simp at hv
    rw [q, hv] at hu
    exact na hu
  · have nd := X.ndt
    rw [List.nodup_cons] at nd ⊢
    refine ⟨?_, ?_⟩
    · simp only [List.mem_append, List.mem_singleton]
      rintro (q | q)
      · exact nd.1 q
      · exact nl q.symm
    · rw [List.nodup_append]
      refine ⟨nd.2, by simp, ?_⟩
      intro u hu v hv q
      simp at hv
      rw [q, hv] at hu
      exact ntt hu
  · intro i a' t' it' h1 h2 h3
    by_cases c : i < items.length
    · rw [List.getElem?_append_left (by rw [X.la]; exact c)] at h1
      rw [List.getElem?_append_left (by rw [X.lt]; exact c)] at h2
      rw [List.getElem?_append_left c] at h3
      refine key a' t' it' (X.at_ i a' t' it' h1 h2 h3) fun q => ?_
      have nd := X.ndt
      rw [List.nodup_cons] at nd
      exact nd.1 (q ▸ List.mem_of_getElem? h2)
    · rw [List.getElem?_append_right (by rw [X.la]; omega)] at h1
      rw [List.getElem?_append_right (by rw [X.lt]; omega)] at h2
      rw [List.getElem?_append_right (by omega)] at h3
      have e0 : i - items.length = 0 := by
        have := (List.getElem?_eq_some_iff.mp h3).1
        simp at this
        omega
      rw [X.la, e0] at h1
      rw [X.lt, e0] at h2
      rw [e0] at h3
      have h1 : a = a' := Option.some.inj h1
      have h2 : t = t' := Option.some.inj h2
      have h3 : it = it' := Option.some.inj h3
      subst h1
      subst h2
      subst h3
      exact key a t it z nl
theorem sc_House_put : FnScope ["self", "entry"] ["self", "entry"] (defScope s_House_put) := ⟨rfl, rfl, rfl, by decide +kernel, rfl, by decide +kernel, by decide +kernel⟩
theorem ok_put {f : Addr} {fd : FuncData} (F : Fun K "put" "House.put" s_House_put f fd) (T : Txt K mg CE CP CS CN CH) : FnOk P w K mg base CX0 1 f fd ["self", "entry"] (spPut CS CN CH) := by
  refine F.ok sc_House_put (fun vs H Q E h => ?_) (fun cdv A outer s H vs Q E hr h => ?_)
  · obtain ⟨h, l, a, t, as, ts, items, it, rfl, _⟩ := h
    rfl
  · obtain ⟨h, l, a, t, as, ts, items, it, rfl, X, h8, z, na, nt, k⟩ := h
    obtain ⟨dx, eo⟩ := X.own
    refine ⟨_, (pss_cons (ps_expr (pe_bm PySem.F.plainAttrs_list PySem.F.slot_list_append PySem.F.type_list_append mt_append (pe_fld (pv 0) rfl) (pa_cons (pv 1) pa_nil)))
   (pss_one (ps_ret (pe_lst (pa_cons (pe_op op_sub (pe_callB call_len_seq (by rfl) T.n_len PySem.boot_len (pa_cons (pe_fld (pv 0) rfl) pa_nil)) pe_int) pa_nil))))), ?_⟩
    refine ⟨_, rfl, h, CH, dx, _, _, rfl, eo, T.clH, T.hE, fH_e l, .inl ⟨rfl, _, SqL.of X.lst⟩, _, rfl, l, _, _, rfl, rfl, X.lst, ?_, ?_⟩
    · rw [List.length_map, X.la]
      exact Nat.lt_of_le_of_lt h8 (by decide)
    have e1 : as.map V.ref ++ [V.ref a] = (as ++ [a]).map V.ref := by simp
    rw [e1]
    have X2 := X.put z na nt
    obtain ⟨dx2, eo2⟩ := X2.own
    refine ⟨_, rfl, h, CH, dx2, _, _, rfl, eo2, T.clH, T.hE, fH_e l, l, _, rfl, .inl (SqL.of X2.lst), _, 1, rfl, rfl, (by show 1 ≤ sizeLine; decide), fun p hp => ?_⟩
    have hp' : H p = none := by
      cases q : H p with
      | none => rfl
      | some o =>
        by_cases c : p = l
        · subst c
          rw [upd_same] at hp
          cases hp
        · rw [upd_ne c, q] at hp
          cases hp
    refine k _ p (X2.same (same_upd hp)) (fun b o e n => ?_) hp' ?_
    · rw [upd_ne (ne_of_none e hp'), upd_ne n]
      exact e
    · have e2 : (((as ++ [a]).map V.ref).length : Int) - 1 = (items.length : Int) := by
        rw [List.length_map, List.length_append, X.la]
        simp
      exact upd_same.trans (congrArg (fun z => some (HO.lst [V.int z])) e2)
def spBegin (CS CN CH : Addr) : Sp := fun vs H Q _ => ∃ (h l : Addr) (as ts : List Addr) (items : List Item), vs = [.ref h] ∧ HouseAt CS CN CH H h l as ts items ∧ After CS CN CH H h l as ts (Re04.step ⟨items⟩ .begin) Q
theorem sc_House_begin : FnScope ["self"] ["self"] (defScope s_House_begin) := ⟨rfl, rfl, rfl, by decide +kernel, rfl, by decide +kernel, by decide +kernel⟩
theorem ok_begin {f : Addr} {fd : FuncData} (F : Fun K "begin" "House.begin" s_House_begin f fd) (T : Txt K mg CE CP CS CN CH) : FnOk P w K mg base CX0 1 f fd ["self"] (spBegin CS CN CH) := by
  refine F.ok sc_House_begin (fun vs H Q E h => ?_) (fun cdv A outer s H vs Q E hr h => ?_)
  · obtain ⟨h, l, as, ts, items, rfl, _⟩ := h
    rfl
  · obtain ⟨h, l, as, ts, items, rfl, X, k⟩ := h
    obtain ⟨dx, eo⟩ := X.own
    refine ⟨_, (pss_cons (ps_fld (pv 0) (pe_lst pa_nil) rfl)
   (pss_one (ps_ret (pe_lst (pa_cons pe_int pa_nil))))), ?_⟩
    refine ⟨Nat.zero_le _, fun t nt => ?_⟩
    have np : h ≠ t := ne_of_none eo nt
    refine ⟨_, rfl, h, CH, dx, fH l, rfl, ?_, T.clH, T.hE, (by show 1 < 1000; decide), ?_⟩
    · rw [upd_ne np]
      exact eo
    refine ⟨(by show 1 ≤ sizeLine; decide), fun p hp => ?_⟩
    have ht : upd (upd H t (.lst [])) h (.ins CH dx (fH t)) t = some (.lst []) := by rw [upd_ne (Ne.symm np), upd_same]
    have e2 : putF "entries" (V.ref t) (fH l) = fH t := fH_put l t
    rw [e2] at hp ⊢
    have hp' : H p = none := by
      cases q : H p with
      | none => rfl
      | some o =>
        by_cases c : p = h
        · subst c
          rw [upd_same] at hp
          cases hp
        · rw [upd_ne c, upd_ne (ne_of_none q nt), q] at hp
          cases hp
    refine k _ t [] [] p ⟨⟨dx, ?_⟩, ?_, rfl, rfl, by simp, by simp, fun i a t' it h1 => by simp at h1⟩ ?_ ?_ upd_same hp'
    · rw [upd_ne (ne_of_none eo hp'), upd_same]
    · rw [upd_ne (ne_of_none ht hp)]
      exact ht
    · rintro b (f | f | f | f)
      · exact .inl (.inl f)
      · exact .inr (f ▸ nt)
      · cases f
      · cases f
    · intro b o e n
      rw [upd_ne (ne_of_none e hp'), upd_ne (fun q => n (.inl q)), upd_ne (ne_of_none e nt)]
      exact e
def spStream (CS CN CH : Addr) : Sp := fun vs H Q _ => ∃ (h l : Addr) (as ts : List Addr) (items : List Item), vs = [.ref h] ∧ HouseAt CS CN CH H h l as ts items ∧ items.length ≤ 8 ∧ After CS CN CH H h l as ts (Re04.step ⟨items⟩ .stream) Q
theorem sc_House_stream : FnScope ["self"] ["self"] (defScope s_House_stream) := ⟨rfl, rfl, rfl, by decide +kernel, rfl, by decide +kernel, by decide +kernel⟩
theorem ok_stream {f : Addr} {fd : FuncData} (F : Fun K "stream" "House.stream" s_House_stream f fd) (T : Txt K mg CE CP CS CN CH) (M_House_is_full : HasM P w K mg base CH "is_full" 1 ["self"] (spIsFull CS CN CH)) (M_House_put : HasM P w K mg base CH "put" 1 ["self", "entry"] (spPut CS CN CH))
    (I_Stream : HasC P w K mg base "Stream" CS 1 ["self", "terms", "ended"] (spInitS CS)) : FnOk P w K mg base CX0 3 f fd ["self"] (spStream CS CN CH) := by
  refine F.ok sc_House_stream (fun vs H Q E h => ?_) (fun cdv A outer s H vs Q E hr h => ?_)
  · obtain ⟨h, l, as, ts, items, rfl, _⟩ := h
    rfl
  · obtain ⟨h, l, as, ts, items, rfl, X, h8, k⟩ := h
    obtain ⟨dx, eo⟩ := X.own
    refine ⟨_, (pss_cons (ps_if (pt_val (pe_ownM0 (pv 0) M_House_is_full (hr.mono (by decide))))
    (pss_one (ps_ret (pe_lst (pa_cons (pe_cn T.c_FULL rfl) pa_nil))))
    pss_nil)
   (pss_one (ps_ret (pe_ownM (pv 0) M_House_put (hr.mono (by decide)) (pa_cons (pe_ownC I_Stream (hr.mono (by decide)) rfl (pa_cons (pe_lst pa_nil) (pa_cons pe_bl pa_nil))) pa_nil))))), ?_⟩
    refine ⟨_, rfl, h, dx, _, rfl, eo, fH_no l (by decide +kernel), h, l, as, ts, items, rfl, X, _, rfl, ?_⟩
    by_cases c : 8 ≤ items.length
    · rw [decide_eq_true c]
      refine iteT ?_
      refine ⟨(by show 1 ≤ sizeLine; decide), fun p hp => ?_⟩
      have e : Re04.step ⟨items⟩ .stream = (⟨items⟩, Re04.ok (-5)) := if_pos c
      rw [e] at k
      exact k.stay X p hp
    · rw [decide_eq_false c]
      refine iteF ?_
      have e : Re04.step ⟨items⟩ .stream = (⟨items ++ [.stream ⟨[], false⟩]⟩, Re04.ok (items.length : Nat)) := if_neg c
      rw [e] at k
      refine ⟨_, rfl, h, dx, _, rfl, eo, fH_no l (by decide +kernel), Nat.zero_le _, fun t nt0 => ?_⟩
      have st : Same H (upd H t (.lst [])) := same_upd nt0
      intro x dy nx ndy ne
      refine ⟨x, dy, t, false, rfl, upd_same, fun H1 hx kp => ⟨rfl, ?_⟩⟩
      have s0 : Same (upd H t (.lst [])) H1 := Same.made nx ndy kp
      have ht : H1 t = some (.lst []) := s0 _ _ upd_same
      have s1 : Same H H1 := st.trans s0
      have nx : H x = none := st.free nx
      refine ⟨h, l, x, t, as, ts, items, .stream ⟨[], false⟩, rfl, X.same s1, h8, ⟨⟨dy, hx⟩, ht⟩, fun q => X.not_new nx (.inr (.inr (.inl q))), fun q => X.not_new nt0 ?_, fun H2 p X2 kp2 hp hp2 => ?_⟩
      · rcases List.mem_cons.mp q with q | q
        · exact .inr (.inl q)
        · exact .inr (.inr (.inr q))
      · refine k H2 l _ _ p X2 ?_ ?_ hp2 (s1.free hp)
        · rintro b (f | f | f | f)
          · exact .inl (.inl f)
          · exact .inl (.inr (.inl f))
          · rcases List.mem_append.mp f with f | f
            · exact .inl (.inr (.inr (.inl f)))
            · simp at f
              exact .inr (f ▸ nx)
          · rcases List.mem_append.mp f with f | f
            · exact .inl (.inr (.inr (.inr f)))
            · simp at f
              exact .inr (f ▸ nt0)
        · intro b o e n
          exact kp2 b o (s1 b o e) fun q => n (.inr (.inl q))
end
end Sv

set_option Elab.async false
set_option maxRecDepth 100000
set_option maxHeartbeats 2000000
namespace Sv
open PySem PySem.Spec PyProof.Rows L2 Hb
open PySem.W (Codec)
open Re04 (Item Known)
section
variable {P : Program} {w : World} {K : PySem.W.Frag} {mg : Str → Option Value} {base : Heap} {CE CP CS CN CH : Addr}
/-- the item of one number is changed, all else stands -/
theorem HouseAt.set {H H' : Hp} {h l a t : Addr} {as ts : List Addr} {items : List Item} {i : Nat} {k : Known} {it : Item} (X : HouseAt CS CN CH H h l as ts items) (ei : items[i]? = some (.stream k)) (ea : as[i]? = some a) (et : ts[i]? = some t)
    (z : ItemAt CS CN H' a t it) (kp : ∀ b o, H b = some o → b ≠ a → b ≠ t → H' b = some o) : HouseAt CS CN CH H' h l as ts (items.set i it) := by
  obtain ⟨⟨da, ha⟩, ht⟩ := X.at_ i a t _ ea et ei
  have nd := X.ndt
  rw [List.nodup_cons] at nd
  have nlt : l ≠ t := fun q => nd.1 (q ▸ List.mem_of_getElem? et)
  refine ⟨?_, kp _ _ X.lst (ne_of X.lst ha (by intro q; cases q)) nlt, by rw [List.length_set]; exact X.la, by rw [List.length_set]; exact X.lt, X.nda, X.ndt, fun j a' t' it' h1 h2 h3 => ?_⟩
  · obtain ⟨dx, e⟩ := X.own
    refine ⟨dx, kp _ _ e (ne_of e ha ?_) (ne_of e ht (by intro q; cases q))⟩
    intro q
    injection q with _ _ q
    simp [fH, fS] at q
  · by_cases c : j = i
    · subst c
      rw [List.getElem?_set_self (List.getElem?_eq_some_iff.mp ei).1] at h3
      have h3 : it = it' := Option.some.inj h3
      have h1 : a = a' := Option.some.inj (ea.symm.trans h1)
      have h2 : t = t' := Option.some.inj (et.symm.trans h2)
      subst h1
      subst h2
      subst h3
      exact z
    · rw [List.getElem?_set_ne (fun q => c q.symm)] at h3
      have na : a' ≠ a := fun q => c (nd_ix X.nda h1 (q ▸ ea))
      have nt : t' ≠ t := fun q => c (nd_ix nd.2 h2 (q ▸ et))
      have y := X.at_ j a' t' it' h1 h2 h3
      cases it' with
      | stream k' =>
        obtain ⟨⟨d, e⟩, e2⟩ := y
        exact ⟨⟨d, kp _ _ e na (ne_of e ht (by intro q; cases q))⟩, kp _ _ e2 (ne_of e2 ha (by intro q; cases q)) nt⟩
      | node F u v =>
        obtain ⟨⟨d, e⟩, e2⟩ := y
        exact ⟨⟨d, kp _ _ e na (ne_of e ht (by intro q; cases q))⟩, kp _ _ e2 (ne_of e2 ha (by intro q; cases q)) nt⟩
/-! ### what the specification's steps are, way by way -/
theorem open_node {items : List Item} {i : Nat} (h : ∀ k, items[i]? ≠ some (.stream k)) : (⟨items⟩ : Re04.State).open_ i = .error (-2) := by
  unfold Re04.State.open_
  cases e : items[i]? with
  | none => simp only
  | some it =>
    cases it with
    | stream k => exact absurd e (h k)
    | node F x y => simp only
theorem open_ended {items : List Item} {i : Nat} {k : Known} (h : items[i]? = some (.stream k)) (e : k.ended = true) : (⟨items⟩ : Re04.State).open_ i = .error (-4) := by
  unfold Re04.State.open_
  simp only [h, if_pos e]
theorem open_ok {items : List Item} {i : Nat} {k : Known} (h : items[i]? = some (.stream k)) (e : k.ended = false) : (⟨items⟩ : Re04.State).open_ i = .ok k := by
  unfold Re04.State.open_
  simp only [h]
  rw [if_neg (by rw [e]; exact Bool.false_ne_true)]
theorem feed_err {items : List Item} {i : Nat} {a v : Int} (h : (⟨items⟩ : Re04.State).open_ i = .error v) : Re04.step ⟨items⟩ (.feed i a) = (⟨items⟩, Re04.ok v) := by
  simp only [Re04.step, h]
theorem feed_ok {items : List Item} {i : Nat} {a : Int} {k : Known} (h : (⟨items⟩ : Re04.State).open_ i = .ok k) : Re04.step ⟨items⟩ (.feed i a) =
    (if Re04.TOP < a.natAbs ∨ (k.terms ≠ [] ∧ a < 1) then (⟨items⟩, Re04.ok (-1)) else if Re04.LONG ≤ k.terms.length then (⟨items⟩, Re04.ok (-5)) else (⟨items.set i (.stream ⟨k.terms ++ [a], false⟩)⟩, Re04.ok (k.terms.length + 1 : Nat))) := by
  simp only [Re04.step, h]
  rfl
theorem close_err {items : List Item} {i : Nat} {v : Int} (h : (⟨items⟩ : Re04.State).open_ i = .error v) : Re04.step ⟨items⟩ (.close i) = (⟨items⟩, Re04.ok v) := by
  simp only [Re04.step, h]
theorem close_ok {items : List Item} {i : Nat} {k : Known} (h : (⟨items⟩ : Re04.State).open_ i = .ok k) : Re04.step ⟨items⟩ (.close i) =
    (if k.terms = [] ∨ (2 ≤ k.terms.length ∧ k.terms.getLastD 0 = 1) then (⟨items⟩, Re04.ok (-3)) else (⟨items.set i (.stream ⟨k.terms, true⟩)⟩, Re04.ok 0)) := by
  simp only [Re04.step, h]
  rfl
theorem fol_iff {ts : List Int} {a : Int} : fol ts a = false ↔ (Re04.TOP < a.natAbs ∨ (ts ≠ [] ∧ a < 1)) := by
  have t : Re04.TOP = 1000 := rfl
  unfold fol inB
  simp only [Bool.and_eq_false_iff, Bool.or_eq_false_iff, decide_eq_false_iff_not, List.length_eq_zero_iff]
  by_cases e : ts = []
  · simp [e, t]
  · simp [e, t]
theorem canE_iff {ts : List Int} : canE ts = false ↔ (ts = [] ∨ (2 ≤ ts.length ∧ ts.getLastD 0 = 1)) := by
  unfold canE
  simp only [Bool.not_eq_false', Bool.or_eq_true, Bool.and_eq_true, decide_eq_true_eq]
theorem dec_ref (a : Addr) : decide (V.ref a = V.non) = false := decide_eq_false (by intro q; cases q)
/-! ### feed -/
def spFeed (CS CN CH : Addr) : Sp := fun vs H Q _ => ∃ (h l : Addr) (as ts : List Addr) (items : List Item) (n z : Int), vs = [.ref h, .int n, .int z] ∧ HouseAt CS CN CH H h l as ts items ∧ 0 ≤ n ∧ TQ.St ⟨items⟩ ∧
  After CS CN CH H h l as ts (Re04.step ⟨items⟩ (.feed n.toNat z)) Q
theorem sc_House_feed : FnScope ["self", "item", "term", "fed"] ["self", "item", "term"] (defScope s_House_feed) := ⟨rfl, rfl, rfl, by decide +kernel, rfl, by decide +kernel, by decide +kernel⟩
theorem ok_feed {f : Addr} {fd : FuncData} (F : Fun K "feed" "House.feed" s_House_feed f fd) (T : Txt K mg CE CP CS CN CH) (M_House_find_stream : HasM P w K mg base CH "find_stream" 2 ["self", "item"] (spFind CS CN CH)) (D_can_follow : Has P w K mg base "can_follow" 2 ["terms", "term"] (spFol K)) :
    FnOk P w K mg base CX0 3 f fd ["self", "item", "term"] (spFeed CS CN CH) := by
  refine F.ok sc_House_feed (fun vs H Q E h => ?_) (fun cdv A outer s H vs Q E hr h => ?_)
  · obtain ⟨h, l, as, ts, items, n, z, rfl, _⟩ := h
    rfl
  · obtain ⟨h, l, as, ts, items, n, z, rfl, X, hn, st, k⟩ := h
    obtain ⟨dx, eo⟩ := X.own
    refine ⟨_, (pss_cons (ps_set (i := 3) sc_House_feed.nd rfl (Or.inl rfl) (pe_ownM (pv 0) M_House_find_stream (hr.mono (by decide)) (pa_cons (pv 1) pa_nil)))
   (pss_cons (ps_if (pt_cmpR op_isN (pv 3) pe_non (nomark _))
    (pss_one (ps_ret (pe_lst (pa_cons (pe_cn T.c_NO_ITEM rfl) pa_nil))))
    pss_nil)
   (pss_cons (ps_if (pt_val (pe_fld (pv 3) rfl))
    (pss_one (ps_ret (pe_lst (pa_cons (pe_cn T.c_NO_MORE rfl) pa_nil))))
    pss_nil)
   (pss_cons (ps_if (pt_not (pt_val (pe_own D_can_follow (hr.mono (by decide)) rfl (pa_cons (pe_fld (pv 3) rfl) (pa_cons (pv 2) pa_nil)))))
    (pss_one (ps_ret (pe_lst (pa_cons (pe_cn T.c_BAD_NUMBER rfl) pa_nil))))
    pss_nil)
   (pss_cons (ps_if (pt_cmpR op_ge (pe_callB call_len_seq (by rfl) T.n_len PySem.boot_len (pa_cons (pe_fld (pv 3) rfl) pa_nil)) (pe_cn T.c_MOST_TERMS rfl) (nomark _))
    (pss_one (ps_ret (pe_lst (pa_cons (pe_cn T.c_FULL rfl) pa_nil))))
    pss_nil)
   (pss_cons (ps_expr (pe_bm PySem.F.plainAttrs_list PySem.F.slot_list_append PySem.F.type_list_append mt_append (pe_fld (pv 3) rfl) (pa_cons (pv 2) pa_nil)))
   (pss_one (ps_ret (pe_lst (pa_cons (pe_callB call_len_seq (by rfl) T.n_len PySem.boot_len (pa_cons (pe_fld (pv 3) rfl) pa_nil)) pa_nil)))))))))), ?_⟩
    refine ⟨_, rfl, h, dx, _, rfl, eo, fH_no l (by decide +kernel), _, rfl, h, l, as, ts, items, n, rfl, X, hn, fun kn a ei ea => ?_, fun no => ?_⟩
    · obtain ⟨a', t, ea', et, zz⟩ := X.get ei
      have e : a = a' := Option.some.inj (ea.symm.trans ea')
      subst e
      obtain ⟨⟨da, ha⟩, ht⟩ := zz
      refine ⟨_, rfl, rfl, _, rfl, ?_⟩
      rw [dec_ref]
      refine iteF ?_
      refine ⟨_, rfl, a, CS, da, _, _, rfl, ha, T.clS, T.sEnded, fS_ended t kn.ended, _, rfl, ?_⟩
      by_cases en : kn.ended = true
      · rw [en]
        refine iteT ?_
        refine ⟨(by show 1 ≤ sizeLine; decide), fun p hp => ?_⟩
        rw [feed_err (open_ended ei en)] at k
        exact k.stay X p hp
      · have en : kn.ended = false := by simpa using en
        rw [en]
        refine iteF ?_
        rw [feed_ok (open_ok ei en)] at k
        refine ⟨_, rfl, a, CS, da, _, _, rfl, ha, T.clS, T.sTerms, fS_terms t kn.ended, _, rfl, t, kn.terms, z, rfl, SqL.of ht, _, rfl, ?_⟩
        by_cases c : fol kn.terms z = true
        · rw [c]
          refine iteF ?_
          rw [if_neg (fun q => by rw [fol_iff.mpr q] at c; cases c)] at k
          refine ⟨_, rfl, a, CS, da, _, _, rfl, ha, T.clS, T.sTerms, fS_terms t kn.ended, t, _, rfl, .inl (SqL.of ht), _, 30, rfl, rfl, _, rfl, ?_⟩
          rw [List.length_map]
          by_cases d : Re04.LONG ≤ kn.terms.length
          · have d' : (30 : Int) ≤ (kn.terms.length : Int) := by
              have : Re04.LONG = 30 := rfl
              omega
            rw [decide_eq_true d']
            refine iteT ?_
            refine ⟨(by show 1 ≤ sizeLine; decide), fun p hp => ?_⟩
            rw [if_pos d] at k
            exact k.stay X p hp
          · have d' : ¬ (30 : Int) ≤ (kn.terms.length : Int) := by
              have : Re04.LONG = 30 := rfl
              omega
            rw [decide_eq_false d']
            refine iteF ?_
            rw [if_neg d] at k
            refine ⟨_, rfl, a, CS, da, _, _, rfl, ha, T.clS, T.sTerms, fS_terms t kn.ended, .inl ⟨rfl, _, SqL.of ht⟩, _, rfl, t, _, _, rfl, rfl, ht, ?_, ?_⟩
            · rw [List.length_map]
              have : Re04.LONG = 30 := rfl
              exact Nat.lt_of_lt_of_le (Nat.not_le.mp d) (by decide)
            have e1 : kn.terms.map V.int ++ [V.int z] = (kn.terms ++ [z]).map V.int := by simp
            rw [e1]
            have nat : a ≠ t := ne_of ha ht (by intro q; cases q)
            have ha2 : upd H t (.lst ((kn.terms ++ [z]).map V.int)) a = some (.ins CS da (fS t kn.ended)) := by rw [upd_ne nat]; exact ha
            refine ⟨_, rfl, a, CS, da, _, _, rfl, ha2, T.clS, T.sTerms, fS_terms t kn.ended, t, _, rfl, .inl (SqL.of upd_same), (by show 1 ≤ sizeLine; decide), fun p hp => ?_⟩
            have hp' : H p = none := by
              cases q : H p with
              | none => rfl
              | some o =>
                by_cases c : p = t
                · subst c
                  rw [upd_same] at hp
                  cases hp
                · rw [upd_ne c, q] at hp
                  cases hp
            have X2 : HouseAt CS CN CH (upd H t (.lst ((kn.terms ++ [z]).map V.int))) h l as ts (items.set n.toNat (.stream ⟨kn.terms ++ [z], false⟩)) :=
              X.set ei ea et ⟨⟨da, by rw [en] at ha2; exact ha2⟩, upd_same⟩ fun b o e _ nt => by rw [upd_ne nt]; exact e
            refine k _ l as ts p (X2.same (same_upd hp)) (fun b f => .inl f) (fun b o e nf => ?_) ?_ hp'
            · rw [upd_ne (ne_of_none e hp'), upd_ne (fun q => nf (.inr (.inr (.inr (by rw [q]; exact List.mem_of_getElem? et)))))]
              exact e
            · refine upd_same.trans ?_
              rw [List.length_map, List.length_append]
              rfl
        · have c : fol kn.terms z = false := by simpa using c
          rw [c]
          refine iteT ?_
          refine ⟨(by show 1 ≤ sizeLine; decide), fun p hp => ?_⟩
          rw [if_pos (fol_iff.mp c)] at k
          exact k.stay X p hp
    · refine ⟨_, rfl, rfl, _, rfl, ?_⟩
      rw [decide_eq_true rfl]
      refine iteT ?_
      refine ⟨(by show 1 ≤ sizeLine; decide), fun p hp => ?_⟩
      rw [feed_err (open_node no)] at k
      exact k.stay X p hp
/-! ### close -/
def spClose (CS CN CH : Addr) : Sp := fun vs H Q _ => ∃ (h l : Addr) (as ts : List Addr) (items : List Item) (n : Int), vs = [.ref h, .int n] ∧ HouseAt CS CN CH H h l as ts items ∧ 0 ≤ n ∧
  After CS CN CH H h l as ts (Re04.step ⟨items⟩ (.close n.toNat)) Q
theorem sc_House_close : FnScope ["self", "item", "closed"] ["self", "item"] (defScope s_House_close) := ⟨rfl, rfl, rfl, by decide +kernel, rfl, by decide +kernel, by decide +kernel⟩
theorem ok_close {f : Addr} {fd : FuncData} (F : Fun K "close" "House.close" s_House_close f fd) (T : Txt K mg CE CP CS CN CH) (M_House_find_stream : HasM P w K mg base CH "find_stream" 2 ["self", "item"] (spFind CS CN CH)) (D_can_end : Has P w K mg base "can_end" 1 ["terms"] (spCan K)) :
    FnOk P w K mg base CX0 3 f fd ["self", "item"] (spClose CS CN CH) := by
  refine F.ok sc_House_close (fun vs H Q E h => ?_) (fun cdv A outer s H vs Q E hr h => ?_)
  · obtain ⟨h, l, as, ts, items, n, rfl, _⟩ := h
    rfl
  · obtain ⟨h, l, as, ts, items, n, rfl, X, hn, k⟩ := h
    obtain ⟨dx, eo⟩ := X.own
    refine ⟨_, (pss_cons (ps_set (i := 2) sc_House_close.nd rfl (Or.inl rfl) (pe_ownM (pv 0) M_House_find_stream (hr.mono (by decide)) (pa_cons (pv 1) pa_nil)))
   (pss_cons (ps_if (pt_cmpR op_isN (pv 2) pe_non (nomark _))
    (pss_one (ps_ret (pe_lst (pa_cons (pe_cn T.c_NO_ITEM rfl) pa_nil))))
    pss_nil)
   (pss_cons (ps_if (pt_val (pe_fld (pv 2) rfl))
    (pss_one (ps_ret (pe_lst (pa_cons (pe_cn T.c_NO_MORE rfl) pa_nil))))
    pss_nil)
   (pss_cons (ps_if (pt_not (pt_val (pe_own D_can_end (hr.mono (by decide)) rfl (pa_cons (pe_fld (pv 2) rfl) pa_nil))))
    (pss_one (ps_ret (pe_lst (pa_cons (pe_cn T.c_NO_END rfl) pa_nil))))
    pss_nil)
   (pss_cons (ps_fld (pv 2) pe_bl rfl)
   (pss_one (ps_ret (pe_lst (pa_cons pe_int pa_nil))))))))), ?_⟩
    refine ⟨_, rfl, h, dx, _, rfl, eo, fH_no l (by decide +kernel), _, rfl, h, l, as, ts, items, n, rfl, X, hn, fun kn a ei ea => ?_, fun no => ?_⟩
    · obtain ⟨a', t, ea', et, zz⟩ := X.get ei
      have e : a = a' := Option.some.inj (ea.symm.trans ea')
      subst e
      obtain ⟨⟨da, ha⟩, ht⟩ := zz
      refine ⟨_, rfl, rfl, _, rfl, ?_⟩
      rw [dec_ref]
      refine iteF ?_
      refine ⟨_, rfl, a, CS, da, _, _, rfl, ha, T.clS, T.sEnded, fS_ended t kn.ended, _, rfl, ?_⟩
      by_cases en : kn.ended = true
      · rw [en]
        refine iteT ?_
        refine ⟨(by show 1 ≤ sizeLine; decide), fun p hp => ?_⟩
        rw [close_err (open_ended ei en)] at k
        exact k.stay X p hp
      · have en : kn.ended = false := by simpa using en
        rw [en]
        refine iteF ?_
        rw [close_ok (open_ok ei en)] at k
        refine ⟨_, rfl, a, CS, da, _, _, rfl, ha, T.clS, T.sTerms, fS_terms t kn.ended, t, kn.terms, rfl, SqL.of ht, _, rfl, ?_⟩
        by_cases c : canE kn.terms = true
        · rw [c]
          refine iteF ?_
          rw [if_neg (fun q => by rw [canE_iff.mpr q] at c; cases c)] at k
          refine ⟨_, rfl, a, CS, da, _, rfl, ha, T.clS, T.sEnded, (by show 2 < 1000; decide), ?_⟩
          rw [fS_close]
          refine ⟨(by show 1 ≤ sizeLine; decide), fun p hp => ?_⟩
          have hp' : H p = none := by
            cases q : H p with
            | none => rfl
            | some o =>
              by_cases c : p = a
              · subst c
                rw [upd_same] at hp
                cases hp
              · rw [upd_ne c, q] at hp
                cases hp
          have nat : t ≠ a := ne_of ht ha (by intro q; cases q)
          have X2 : HouseAt CS CN CH (upd H a (.ins CS da (fS t true))) h l as ts (items.set n.toNat (.stream ⟨kn.terms, true⟩)) :=
            X.set ei ea et ⟨⟨da, upd_same⟩, by rw [upd_ne nat]; exact ht⟩ fun b o e na _ => by rw [upd_ne na]; exact e
          refine k _ l as ts p (X2.same (same_upd hp)) (fun b f => .inl f) (fun b o e nf => ?_) upd_same hp'
          rw [upd_ne (ne_of_none e hp'), upd_ne (fun q => nf (.inr (.inr (.inl (by rw [q]; exact List.mem_of_getElem? ea)))))]
          exact e
        · have c : canE kn.terms = false := by simpa using c
          rw [c]
          refine iteT ?_
          refine ⟨(by show 1 ≤ sizeLine; decide), fun p hp => ?_⟩
          rw [if_pos (canE_iff.mp c)] at k
          exact k.stay X p hp
    · refine ⟨_, rfl, rfl, _, rfl, ?_⟩
      rw [decide_eq_true rfl]
      refine iteT ?_
      refine ⟨(by show 1 ≤ sizeLine; decide), fun p hp => ?_⟩
      rw [close_err (open_node no)] at k
      exact k.stay X p hp
end
end Sv

set_option Elab.async false
set_option maxRecDepth 100000
set_option maxHeartbeats 2000000
namespace Sv
open PySem PySem.Spec PyProof.Rows L2 Hb
open PySem.W (Codec)
open Re04 (Item Known)
section
variable {P : Program} {w : World} {K : PySem.W.Frag} {mg : Str → Option Value} {base : Heap} {CE CP CS CN CH : Addr}
theorem funOf_iff {ns : List Int} : areF ns = true → ∃ F, Re04.funOf ns = some F ∧ facs F = ns := by
  intro h
  unfold areF at h
  rw [Bool.and_eq_true] at h
  have hl := of_decide_eq_true h.1
  match ns, hl, h.2 with
  | [a, b, c, d, e, f, g, i], _, h2 =>
    refine ⟨⟨a, b, c, d, e, f, g, i⟩, ?_, rfl⟩
    have h3 : (([a, b, c, d, e, f, g, i] : List Int).all fun z => decide (z.natAbs ≤ Re04.TOP)) = true := h2
    exact if_pos h3
theorem funOf_none {ns : List Int} : areF ns = false → Re04.funOf ns = none := by
  intro h
  unfold Re04.funOf
  split
  · rename_i a b c d e f g i
    refine if_neg fun z => ?_
    have : areF [a, b, c, d, e, f, g, i] = true := by
      unfold areF
      rw [decide_eq_true (by rfl)]
      exact z
    rw [this] at h
    cases h
  · rfl
def spNode (K : PySem.W.Frag) (CS CN CH : Addr) : Sp := fun vs H Q _ => ∃ (h l q : Addr) (as ts : List Addr) (items : List Item) (x y : Int) (ns : List Int), vs = [.ref h, .int x, .int y, .ref q] ∧ HouseAt CS CN CH H h l as ts items ∧ SqL K H q (ns.map V.int) ∧ ns.length ≤ 100 ∧ 0 ≤ x ∧ 0 ≤ y ∧ items.length ≤ 8 ∧
  After CS CN CH H h l as ts (Re04.step ⟨items⟩ (.node x.toNat y.toNat ns)) Q
theorem sc_House_node : FnScope ["self", "x", "y", "numbers"] ["self", "x", "y", "numbers"] (defScope s_House_node) := ⟨rfl, rfl, rfl, by decide +kernel, rfl, by decide +kernel, by decide +kernel⟩
theorem ok_node {f : Addr} {fd : FuncData} (F : Fun K "node" "House.node" s_House_node f fd) (T : Txt K mg CE CP CS CN CH) (M_House_has_item : HasM P w K mg base CH "has_item" 1 ["self", "item"] (spHasItem CS CN CH)) (M_House_is_full : HasM P w K mg base CH "is_full" 1 ["self"] (spIsFull CS CN CH))
    (M_House_put : HasM P w K mg base CH "put" 1 ["self", "entry"] (spPut CS CN CH)) (I_Node : HasC P w K mg base "Node" CN 1 ["self", "x", "y", "factors"] (spInitN CN)) (D_are_factors : Has P w K mg base "are_factors" 2 ["numbers"] (spAre K)) :
    FnOk P w K mg base CX0 3 f fd ["self", "x", "y", "numbers"] (spNode K CS CN CH) := by
  refine F.ok sc_House_node (fun vs H Q E h => ?_) (fun cdv A outer s H vs Q E hr h => ?_)
  · obtain ⟨h, l, q, as, ts, items, x, y, ns, rfl, _⟩ := h
    rfl
  · obtain ⟨h, l, q, as, ts, items, x, y, ns, rfl, X, hS, hl, hx, hy, h8, k⟩ := h
    obtain ⟨dx, eo⟩ := X.own
    refine ⟨_, (pss_cons (ps_if (PW.pt (pw_or (pt_not (pt_val (pe_ownM (pv 0) M_House_has_item (hr.mono (by decide)) (pa_cons (pv 1) pa_nil)))) (pw_or1 (pt_not (pt_val (pe_ownM (pv 0) M_House_has_item (hr.mono (by decide)) (pa_cons (pv 2) pa_nil)))))))
    (pss_one (ps_ret (pe_lst (pa_cons (pe_cn T.c_NO_ITEM rfl) pa_nil))))
    pss_nil)
   (pss_cons (ps_if (pt_not (pt_val (pe_own D_are_factors (hr.mono (by decide)) rfl (pa_cons (pv 3) pa_nil))))
    (pss_one (ps_ret (pe_lst (pa_cons (pe_cn T.c_BAD_NUMBER rfl) pa_nil))))
    pss_nil)
   (pss_cons (ps_if (pt_val (pe_ownM0 (pv 0) M_House_is_full (hr.mono (by decide))))
    (pss_one (ps_ret (pe_lst (pa_cons (pe_cn T.c_FULL rfl) pa_nil))))
    pss_nil)
   (pss_one (ps_ret (pe_ownM (pv 0) M_House_put (hr.mono (by decide)) (pa_cons (pe_ownC I_Node (hr.mono (by decide)) rfl (pa_cons (pv 1) (pa_cons (pv 2) (pa_cons (pe_callTy call_tuple_of (by rfl) T.n_tuple (by decide +kernel) (pa_cons (pv 3) pa_nil)) pa_nil)))) pa_nil))))))), ?_⟩
    have no : (items.length ≤ x.toNat ∨ items.length ≤ y.toNat) → ∀ p, H p = none → Q (.ref p) (upd H p (.lst [.int (-2)])) := fun c p hp => by
      have e : Re04.step ⟨items⟩ (.node x.toNat y.toNat ns) = (⟨items⟩, Re04.ok (-2)) := if_pos c
      rw [e] at k
      exact k.stay X p hp
    have no2 : (items.length ≤ x.toNat ∨ items.length ≤ y.toNat) → tRet (tLst (tCons (tC (.int (-2))) tNil)) { nx := fun _ H' => Q .non H', rt := Q } (L2.start ["self", "x", "y", "numbers"] [.ref h, .int x, .int y, .ref q]) H :=
      fun c => ⟨(by show 1 ≤ sizeLine; decide), fun p hp => no c p hp⟩
    refine ⟨_, rfl, h, dx, _, rfl, eo, fH_no l (by decide +kernel), _, rfl, h, l, as, ts, items, x, rfl, X, hx, _, rfl, ?_⟩
    by_cases cx : x.toNat < items.length
    · rw [decide_eq_true cx]
      refine iteF ?_
      refine ⟨_, rfl, h, dx, _, rfl, eo, fH_no l (by decide +kernel), _, rfl, h, l, as, ts, items, y, rfl, X, hy, _, rfl, ?_⟩
      by_cases cy : y.toNat < items.length
      · rw [decide_eq_true cy]
        refine iteF ?_
        have e0 : Re04.step ⟨items⟩ (.node x.toNat y.toNat ns) = (match Re04.funOf ns with
            | none => (⟨items⟩, Re04.ok (-1))
            | some F => if Re04.MOST ≤ items.length then (⟨items⟩, Re04.ok (-5)) else (⟨items ++ [.node F x.toNat y.toNat]⟩, Re04.ok (items.length : Nat))) := if_neg (by show ¬ (items.length ≤ _ ∨ items.length ≤ _); omega)
        rw [e0] at k
        refine ⟨_, rfl, q, ns, rfl, hS, hl, fun H1 s1 => ⟨_, rfl, ?_⟩⟩
        have X1 := X.same s1
        obtain ⟨dx1, eo1⟩ := X1.own
        by_cases c : areF ns = true
        · rw [c]
          refine iteF ?_
          obtain ⟨Fn, eF, fF⟩ := funOf_iff c
          rw [eF] at k
          refine ⟨_, rfl, h, dx1, _, rfl, eo1, fH_no l (by decide +kernel), h, l, as, ts, items, rfl, X1, _, rfl, ?_⟩
          by_cases d : 8 ≤ items.length
          · rw [decide_eq_true d]
            refine iteT ?_
            refine ⟨(by show 1 ≤ sizeLine; decide), fun p hp => ?_⟩
            have k2 : After CS CN CH H h l as ts (⟨items⟩, Re04.ok (-5)) Q := by
              have e : (if Re04.MOST ≤ items.length then ((⟨items⟩ : Re04.State), Re04.ok (-5)) else (⟨items ++ [.node Fn x.toNat y.toNat]⟩, Re04.ok (items.length : Nat))) = (⟨items⟩, Re04.ok (-5)) := if_pos d
              simp only at k
              rw [e] at k
              exact k
            exact k2 _ l as ts p (X1.same (same_upd hp)) (fun b f => .inl f) (same_kept (s1.trans (same_upd hp))) upd_same (s1.free hp)
          · rw [decide_eq_false d]
            refine iteF ?_
            have k2 : After CS CN CH H h l as ts (⟨items ++ [.node Fn x.toNat y.toNat]⟩, Re04.ok (items.length : Nat)) Q := by
              have e : (if Re04.MOST ≤ items.length then ((⟨items⟩ : Re04.State), Re04.ok (-5)) else (⟨items ++ [.node Fn x.toNat y.toNat]⟩, Re04.ok (items.length : Nat))) = (⟨items ++ [.node Fn x.toNat y.toNat]⟩, Re04.ok (items.length : Nat)) := if_neg d
              simp only at k
              rw [e] at k
              exact k
            refine ⟨_, rfl, h, dx1, _, rfl, eo1, fH_no l (by decide +kernel), _, rfl, _, rfl, _, rfl, q, _, rfl, .inl ⟨s1.seq hS, fun t nt => ?_⟩⟩
            have s2 : Same H1 (upd H1 t (.tup (ns.map V.int))) := same_upd nt
            intro z dz nz ndz ne
            refine ⟨z, dz, t, x, y, rfl, upd_same, fun H3 hz kp => ⟨rfl, ?_⟩⟩
            have s3 : Same (upd H1 t (.tup (ns.map V.int))) H3 := Same.made nz ndz kp
            have s13 : Same H H3 := (s1.trans s2).trans s3
            have ht : H3 t = some (.tup ((facs Fn).map V.int)) := by
              rw [fF]
              exact s3 _ _ upd_same
            have nz0 : H z = none := s1.free (s2.free nz)
            have nt0 : H t = none := s1.free nt
            have ex : ((x.toNat : Nat) : Int) = x := by omega
            have ey : ((y.toNat : Nat) : Int) = y := by omega
            refine ⟨h, l, z, t, as, ts, items, .node Fn x.toNat y.toNat, rfl, X.same s13, h8, ⟨⟨dz, by rw [ex, ey]; exact hz⟩, ht⟩, fun q => X.not_new nz0 (.inr (.inr (.inl q))), fun q => X.not_new nt0 ?_, fun H4 p X4 kp4 hp hp4 => ?_⟩
            · rcases List.mem_cons.mp q with q | q
              · exact .inr (.inl q)
              · exact .inr (.inr (.inr q))
            · refine k2 H4 l _ _ p X4 ?_ ?_ hp4 (s13.free hp)
              · rintro b (f | f | f | f)
                · exact .inl (.inl f)
                · exact .inl (.inr (.inl f))
                · rcases List.mem_append.mp f with f | f
                  · exact .inl (.inr (.inr (.inl f)))
                  · simp at f
                    exact .inr (f ▸ nz0)
                · rcases List.mem_append.mp f with f | f
                  · exact .inl (.inr (.inr (.inr f)))
                  · simp at f
                    exact .inr (f ▸ nt0)
              · intro b o e n
                exact kp4 b o (s13 b o e) fun q => n (.inr (.inl q))
        · have c : areF ns = false := by simpa using c
          rw [c]
          refine iteT ?_
          refine ⟨(by show 1 ≤ sizeLine; decide), fun p hp => ?_⟩
          rw [funOf_none c] at k
          exact k _ l as ts p (X1.same (same_upd hp)) (fun b f => .inl f) (same_kept (s1.trans (same_upd hp))) upd_same (s1.free hp)
      · rw [decide_eq_false cy]
        exact iteT (no2 (.inr (by omega)))
    · rw [decide_eq_false cx]
      exact iteT (no2 (.inl (by omega)))
end
end Sv

set_option Elab.async false
set_option maxRecDepth 100000
set_option maxHeartbeats 2000000
namespace Sv
open PySem PySem.Spec PyProof.Rows L2 Hb
open PySem.W (Codec)
open Re04 (Item Known)
open TQ (Sn Rep BB swp wpg lies rawOf CanE Tail RepO sureOf KR knownOf)
section
variable {P : Program} {w : World} {K : PySem.W.Frag} {mg : Str → Option Value} {base : Heap} {CE CP CS CN CH : Addr}
/-- an answer that changes nothing -/
theorem After.query {H H' : Hp} {h l p : Addr} {as ts : List Addr} {items : List Item} {Q : VK} {a : Re04.Ans} (k : After CS CN CH H h l as ts (⟨items⟩, a) Q) (x : HouseAt CS CN CH H h l as ts items) (s : Same H H') (hp : H' p = some (.lst ((a.v :: a.l).map V.int))) (np : H p = none) : Q (.ref p) H' :=
  k H' l as ts p (x.same s) (fun _ f => .inl f) (same_kept s) hp np
theorem known_none {items : List Item} {n : Nat} (h : ¬ n < items.length) : (⟨items⟩ : Re04.State).known n = none := by
  show (Re04.knowns items)[n]? = none
  exact List.getElem?_eq_none (by rw [TQ.knowns_len]; omega)
theorem known_some {items : List Item} {n : Nat} (h : n < items.length) : ∃ k q, (Re04.knowns items)[n]? = some (k, q) := by
  obtain ⟨x, e⟩ : ∃ x, (Re04.knowns items)[n]? = some x := ⟨_, List.getElem?_eq_getElem (by rw [TQ.knowns_len]; exact h)⟩
  exact ⟨x.1, x.2, e⟩
/-! ### sure -/
def spSureM (CS CN CH : Addr) : Sp := fun vs H Q _ => ∃ (h l : Addr) (as ts : List Addr) (items : List Item) (n : Nat), vs = [.ref h, .int n] ∧ HouseAt CS CN CH H h l as ts items ∧ TQ.St ⟨items⟩ ∧ After CS CN CH H h l as ts (Re04.step ⟨items⟩ (.sure n)) Q
theorem sc_House_sure : FnScope ["self", "item", "told"] ["self", "item"] (defScope s_House_sure) := ⟨rfl, rfl, rfl, by decide +kernel, rfl, by decide +kernel, by decide +kernel⟩
theorem ok_sure {f : Addr} {fd : FuncData} (F : Fun K "sure" "House.sure" s_House_sure f fd) (T : Txt K mg CE CP CS CN CH) (M_House_has_item : HasM P w K mg base CH "has_item" 1 ["self", "item"] (spHasItem CS CN CH)) (M_House_find_stream : HasM P w K mg base CH "find_stream" 2 ["self", "item"] (spFind CS CN CH))
    (D_sure_stream : Has P w K mg base "sure_stream" 36 ["span"] (spSureStr CE CP CS)) (D_item_span : Has P w K mg base "item_span" 37 ["entries", "item"] (spItemSpan CE CP CS CN CH)) : FnOk P w K mg base CX0 38 f fd ["self", "item"] (spSureM CS CN CH) := by
  refine F.ok sc_House_sure (fun vs H Q E h => ?_) (fun cdv A outer s H vs Q E hr h => ?_)
  · obtain ⟨h, l, as, ts, items, n, rfl, _⟩ := h
    rfl
  · obtain ⟨h, l, as, ts, items, n, rfl, X, st, k⟩ := h
    obtain ⟨dx, eo⟩ := X.own
    refine ⟨_, (pss_cons (ps_if (pt_not (pt_val (pe_ownM (pv 0) M_House_has_item (hr.mono (by decide)) (pa_cons (pv 1) pa_nil))))
    (pss_one (ps_ret (pe_lst (pa_cons (pe_cn T.c_NO_ITEM rfl) pa_nil))))
    pss_nil)
   (pss_cons (ps_set (i := 2) sc_House_sure.nd rfl (Or.inl rfl) (pe_ownM (pv 0) M_House_find_stream (hr.mono (by decide)) (pa_cons (pv 1) pa_nil)))
   (pss_cons (ps_if (pt_cmpR op_isN (pv 2) pe_non (nomark _))
    (pss_one (ps_set (i := 2) sc_House_sure.nd rfl (Or.inl rfl) (pe_own D_sure_stream (hr.mono (by decide)) rfl (pa_cons (pe_own D_item_span (hr.mono (by decide)) rfl (pa_cons (pe_fld (pv 0) rfl) (pa_cons (pv 1) pa_nil))) pa_nil))))
    pss_nil)
   (pss_one (ps_ret (pe_op op_cat (pe_lst (pa_cons (pe_ifExp (pt_val (pe_fld (pv 2) rfl)) pe_int pe_int) pa_nil)) (pe_fld (pv 2) rfl))))))), ?_⟩
    have hn : (0 : Int) ≤ (n : Int) := by omega
    have most : items.length ≤ 8 := st.most
    refine ⟨_, rfl, h, dx, _, rfl, eo, fH_no l (by decide +kernel), _, rfl, h, l, as, ts, items, n, rfl, X, hn, _, rfl, ?_⟩
    rw [Int.toNat_natCast]
    by_cases c : n < items.length
    · rw [decide_eq_true c]
      refine iteF ?_
      obtain ⟨kn, q, ek⟩ := known_some c
      have es : Re04.step ⟨items⟩ (.sure n) = (⟨items⟩, ⟨Re04.flag kn.ended, kn.terms⟩) := by
        simp only [Re04.step, Re04.State.known, ek]
      rw [es] at k
      have kr := TQ.Good.knowns st.good n kn q ek
      have long : kn.terms.length ≤ 1000000 := by
        have := kr.long
        have := TQ.bits_le n 7 (by omega)
        have := TQ.bits_8
        omega
      have big : 1 + kn.terms.length ≤ sizeLine := Nat.le_trans (show 1 + kn.terms.length ≤ 1000001 by omega) (by decide)
      refine ⟨_, rfl, h, dx, _, rfl, eo, fH_no l (by decide +kernel), _, rfl, h, l, as, ts, items, n, rfl, X, hn, fun k0 a ei ea => ?_, fun no => ?_⟩
      · rw [Int.toNat_natCast] at ei ea
        have kat := TQ.knowns_at ei
        rw [ek] at kat
        have kat : (kn, q) = (k0, k0.range) := Option.some.inj kat
        have e0 : kn = k0 := congrArg Prod.fst kat
        subst e0
        obtain ⟨a', t, ea', et, z⟩ := X.get ei
        have e : a = a' := Option.some.inj (ea.symm.trans ea')
        subst e
        obtain ⟨⟨da, ha⟩, ht⟩ := z
        have sH : Same H H := Same.refl H
        refine ⟨_, rfl, rfl, _, rfl, ?_⟩
        rw [dec_ref]
        refine iteF ?_
        refine ⟨_, rfl, a, CS, da, _, _, rfl, ha, T.clS, T.sEnded, fS_ended t kn.ended, _, rfl, ?_⟩
        cases en : kn.ended with
        | true =>
          rw [en] at k ha
          refine iteT ⟨(by show 1 ≤ sizeLine; decide), fun p1 n1 => ?_⟩
          have s9 : Same H (upd H p1 (.lst [.int 1])) := same_upd n1
          refine ⟨_, rfl, a, CS, da, _, _, rfl, s9 _ _ ha, T.clS, T.sTerms, fS_terms t true, p1, t, _, _, rfl, rfl, upd_same, s9 _ _ ht, by rw [List.length_map]; exact big, fun p np => ?_⟩
          exact k.query X ((sH.trans s9).trans (same_upd np)) upd_same ((sH.trans s9).free np)
        | false =>
          rw [en] at k ha
          refine iteF ⟨(by show 1 ≤ sizeLine; decide), fun p1 n1 => ?_⟩
          have s9 : Same H (upd H p1 (.lst [.int 0])) := same_upd n1
          refine ⟨_, rfl, a, CS, da, _, _, rfl, s9 _ _ ha, T.clS, T.sTerms, fS_terms t false, p1, t, _, _, rfl, rfl, upd_same, s9 _ _ ht, by rw [List.length_map]; exact big, fun p np => ?_⟩
          exact k.query X ((sH.trans s9).trans (same_upd np)) upd_same ((sH.trans s9).free np)
      · rw [Int.toNat_natCast] at no
        refine ⟨_, rfl, rfl, _, rfl, ?_⟩
        rw [decide_eq_true rfl]
        refine iteT ?_
        have eks : kn = sureOf q := by
          obtain ⟨it, hit⟩ : ∃ it, items[n]? = some it := ⟨_, List.getElem?_eq_getElem c⟩
          have kat := TQ.knowns_at hit
          rw [ek] at kat
          have kat := Option.some.inj kat
          cases it with
          | stream k0 => exact absurd hit (no k0)
          | node Fn x y =>
            obtain ⟨_, hx, hy⟩ := st.good n _ hit
            have lm : ((Re04.knowns items).take n).length = n := by rw [List.length_take, TQ.knowns_len]; omega
            obtain ⟨kx, ekx⟩ : ∃ q, ((Re04.knowns items).take n)[x]? = some q := ⟨_, List.getElem?_eq_getElem (by rw [lm]; exact hx)⟩
            obtain ⟨ky, eky⟩ : ∃ q, ((Re04.knowns items).take n)[y]? = some q := ⟨_, List.getElem?_eq_getElem (by rw [lm]; exact hy)⟩
            obtain ⟨kx, ox⟩ := kx
            obtain ⟨ky, oy⟩ := ky
            have := (known_node (F := Fn) ekx eky).2
            rw [← kat] at this
            exact this
        refine ⟨_, rfl, h, CH, dx, _, _, rfl, eo, T.clH, T.hE, fH_e l, _, rfl, h, l, as, ts, items, n, kn, q, rfl, X, st, ek, fun H1 v o s1 hv ho => ?_⟩
        refine ⟨v, o, q, rfl, hv, ho, fun H2 a t da s2 na nt ha ht => ?_⟩
        rw [← eks] at ha ht
        have sH : Same H H2 := s1.trans s2
        refine ⟨_, rfl, a, CS, da, _, _, rfl, ha, T.clS, T.sEnded, fS_ended t kn.ended, _, rfl, ?_⟩
        cases en : kn.ended with
        | true =>
          rw [en] at k ha
          refine iteT ⟨(by show 1 ≤ sizeLine; decide), fun p1 n1 => ?_⟩
          have s9 : Same H2 (upd H2 p1 (.lst [.int 1])) := same_upd n1
          refine ⟨_, rfl, a, CS, da, _, _, rfl, s9 _ _ ha, T.clS, T.sTerms, fS_terms t true, p1, t, _, _, rfl, rfl, upd_same, s9 _ _ ht, by rw [List.length_map]; exact big, fun p np => ?_⟩
          exact k.query X ((sH.trans s9).trans (same_upd np)) upd_same ((sH.trans s9).free np)
        | false =>
          rw [en] at k ha
          refine iteF ⟨(by show 1 ≤ sizeLine; decide), fun p1 n1 => ?_⟩
          have s9 : Same H2 (upd H2 p1 (.lst [.int 0])) := same_upd n1
          refine ⟨_, rfl, a, CS, da, _, _, rfl, s9 _ _ ha, T.clS, T.sTerms, fS_terms t false, p1, t, _, _, rfl, rfl, upd_same, s9 _ _ ht, by rw [List.length_map]; exact big, fun p np => ?_⟩
          exact k.query X ((sH.trans s9).trans (same_upd np)) upd_same ((sH.trans s9).free np)
    · rw [decide_eq_false c]
      refine iteT ⟨(by show 1 ≤ sizeLine; decide), fun p hp => ?_⟩
      have es : Re04.step ⟨items⟩ (.sure n) = (⟨items⟩, Re04.ok (-2)) := by
        simp only [Re04.step, known_none c]
      rw [es] at k
      exact k.stay X p hp
/-! ### range -/
def spEndsM (CS CN CH : Addr) : Sp := fun vs H Q _ => ∃ (h l : Addr) (as ts : List Addr) (items : List Item) (n : Nat), vs = [.ref h, .int n] ∧ HouseAt CS CN CH H h l as ts items ∧ TQ.St ⟨items⟩ ∧ After CS CN CH H h l as ts (Re04.step ⟨items⟩ (.range n)) Q
theorem sc_House_ends : FnScope ["self", "item", "span"] ["self", "item"] (defScope s_House_ends) := ⟨rfl, rfl, rfl, by decide +kernel, rfl, by decide +kernel, by decide +kernel⟩
theorem ok_ends {f : Addr} {fd : FuncData} (F : Fun K "ends" "House.ends" s_House_ends f fd) (T : Txt K mg CE CP CS CN CH) (M_House_has_item : HasM P w K mg base CH "has_item" 1 ["self", "item"] (spHasItem CS CN CH)) (D_item_span : Has P w K mg base "item_span" 37 ["entries", "item"] (spItemSpan CE CP CS CN CH))
    (D_told_end : Has P w K mg base "told_end" 33 ["end"] (spTold CE)) : FnOk P w K mg base CX0 38 f fd ["self", "item"] (spEndsM CS CN CH) := by
  refine F.ok sc_House_ends (fun vs H Q E h => ?_) (fun cdv A outer s H vs Q E hr h => ?_)
  · obtain ⟨h, l, as, ts, items, n, rfl, _⟩ := h
    rfl
  · obtain ⟨h, l, as, ts, items, n, rfl, X, st, k⟩ := h
    obtain ⟨dx, eo⟩ := X.own
    refine ⟨_, (pss_cons (ps_if (pt_not (pt_val (pe_ownM (pv 0) M_House_has_item (hr.mono (by decide)) (pa_cons (pv 1) pa_nil))))
    (pss_one (ps_ret (pe_lst (pa_cons (pe_cn T.c_NO_ITEM rfl) pa_nil))))
    pss_nil)
   (pss_cons (ps_set (i := 2) sc_House_ends.nd rfl (Or.inl rfl) (pe_own D_item_span (hr.mono (by decide)) rfl (pa_cons (pe_fld (pv 0) rfl) (pa_cons (pv 1) pa_nil))))
   (pss_cons (ps_if (pt_cmpR op_isN (pv 2) pe_non (nomark _))
    (pss_one (ps_ret (pe_lst (pa_cons (pe_cn T.c_NOT_KNOWN rfl) pa_nil))))
    pss_nil)
   (pss_one (ps_ret (pe_op op_cat (pe_op op_cat (pe_lst (pa_cons pe_int pa_nil)) (pe_own D_told_end (hr.mono (by decide)) rfl (pa_cons (pe_fld (pv 2) rfl) pa_nil))) (pe_own D_told_end (hr.mono (by decide)) rfl (pa_cons (pe_fld (pv 2) rfl) pa_nil)))))))), ?_⟩
    have hn : (0 : Int) ≤ (n : Int) := by omega
    refine ⟨_, rfl, h, dx, _, rfl, eo, fH_no l (by decide +kernel), _, rfl, h, l, as, ts, items, n, rfl, X, hn, _, rfl, ?_⟩
    rw [Int.toNat_natCast]
    by_cases c : n < items.length
    · rw [decide_eq_true c]
      refine iteF ?_
      obtain ⟨kn, q, ek⟩ := known_some c
      refine ⟨_, rfl, h, CH, dx, _, _, rfl, eo, T.clH, T.hE, fH_e l, _, rfl, h, l, as, ts, items, n, kn, q, rfl, X, st, ek, fun H1 v o s1 hv ho => ?_⟩
      match o, q, hv, ho, ek with
      | none, none, hv, _, ek =>
        have hv : v = .non := hv
        subst hv
        refine ⟨_, rfl, rfl, _, rfl, ?_⟩
        rw [decide_eq_true rfl]
        refine iteT ⟨(by show 1 ≤ sizeLine; decide), fun p hp => ?_⟩
        have es : Re04.step ⟨items⟩ (.range n) = (⟨items⟩, Re04.ok (-7)) := by
          simp only [Re04.step, Re04.State.known, ek]
        rw [es] at k
        exact k.query X (s1.trans (same_upd hp)) upd_same (s1.free hp)
      | some S, some r, hv, ho, ek =>
        obtain ⟨u, rfl, du, a, b, hu, ha, hb⟩ := hv
        obtain ⟨rep, _⟩ := ho
        refine ⟨_, rfl, rfl, _, rfl, ?_⟩
        rw [dec_ref]
        refine iteF ?_
        have es : Re04.step ⟨items⟩ (.range n) = (⟨items⟩, ⟨0, [Re04.flag r.loIn, r.lo.n, (r.lo.d : Nat), Re04.flag r.hiIn, r.hi.n, (r.hi.d : Nat)]⟩) := by
          simp only [Re04.step, Re04.State.known, ek]
        rw [es] at k
        refine ⟨(by show 1 ≤ sizeLine; decide), fun p1 n1 => ?_⟩
        have s2 := same_upd n1 (o := .lst [.int 0])
        have h2 : upd H1 p1 (.lst [.int 0]) p1 = some (.lst [.int 0]) := upd_same
        generalize upd H1 p1 (.lst [.int 0]) = H2 at *
        refine ⟨_, rfl, u, CP, du, _, _, rfl, s2 _ _ hu, T.clP, T.pLeast, fP_least a b, a, _, _, _, r.lo, rfl, ha.same s2, rep.ok.lo, rep.lo, rep.ld, fun H3 p3 s3 n3 h3 => ?_⟩
        refine ⟨p1, p3, _, _, rfl, rfl, s3 _ _ h2, h3, (by show 4 ≤ sizeLine; decide), fun p4 n4 => ?_⟩
        have s4 := same_upd n4 (o := .lst ([.int 0] ++ [Re04.flag S.lt, r.lo.n, (r.lo.d : Int)].map V.int))
        have h4 : upd H3 p4 (.lst ([.int 0] ++ [Re04.flag S.lt, r.lo.n, (r.lo.d : Int)].map V.int)) p4 = some (.lst ([.int 0] ++ [Re04.flag S.lt, r.lo.n, (r.lo.d : Int)].map V.int)) := upd_same
        generalize upd H3 p4 (.lst ([.int 0] ++ [Re04.flag S.lt, r.lo.n, (r.lo.d : Int)].map V.int)) = H4 at *
        have s234 := (s2.trans s3).trans s4
        refine ⟨_, rfl, u, CP, du, _, _, rfl, s234 _ _ hu, T.clP, T.pGreatest, fP_greatest a b, b, _, _, _, r.hi, rfl, hb.same s234, rep.ok.hi, rep.hi, rep.gd, fun H5 p5 s5 n5 h5 => ?_⟩
        refine ⟨p4, p5, _, _, rfl, rfl, s5 _ _ h4, h5, (by show 7 ≤ sizeLine; decide), fun p6 n6 => ?_⟩
        have sH := (s1.trans s234).trans s5
        refine k.query X (sH.trans (same_upd n6)) ?_ (sH.free n6)
        rw [upd_same, rep.lt, rep.gt]
        rfl
      | none, some r, _, ho, _ => exact ho.elim
      | some S, none, _, ho, _ => exact ho.elim
    · rw [decide_eq_false c]
      refine iteT ⟨(by show 1 ≤ sizeLine; decide), fun p hp => ?_⟩
      have es : Re04.step ⟨items⟩ (.range n) = (⟨items⟩, Re04.ok (-2)) := by
        simp only [Re04.step, known_none c]
      rw [es] at k
      exact k.stay X p hp
/-! ### digits -/
def spDigitsM (CS CN CH : Addr) : Sp := fun vs H Q _ => ∃ (h l : Addr) (as ts : List Addr) (items : List Item) (n m : Nat), vs = [.ref h, .int n, .int m] ∧ HouseAt CS CN CH H h l as ts items ∧ TQ.St ⟨items⟩ ∧ After CS CN CH H h l as ts (Re04.step ⟨items⟩ (.digits n m)) Q
theorem sc_House_digits : FnScope ["self", "item", "count", "span", "part"] ["self", "item", "count"] (defScope s_House_digits) := ⟨rfl, rfl, rfl, by decide +kernel, rfl, by decide +kernel, by decide +kernel⟩
theorem ok_digits {f : Addr} {fd : FuncData} (F : Fun K "digits" "House.digits" s_House_digits f fd) (T : Txt K mg CE CP CS CN CH) (M_House_has_item : HasM P w K mg base CH "has_item" 1 ["self", "item"] (spHasItem CS CN CH)) (D_item_span : Has P w K mg base "item_span" 37 ["entries", "item"] (spItemSpan CE CP CS CN CH))
    (D_shared_whole_part : Has P w K mg base "shared_whole_part" 34 ["span", "times"] (spSwp CE CP)) (D_ten_times : Has P w K mg base "ten_times" 1 ["count"] spTen) : FnOk P w K mg base CX0 38 f fd ["self", "item", "count"] (spDigitsM CS CN CH) := by
  refine F.ok sc_House_digits (fun vs H Q E h => ?_) (fun cdv A outer s H vs Q E hr h => ?_)
  · obtain ⟨h, l, as, ts, items, n, m, rfl, _⟩ := h
    rfl
  · obtain ⟨h, l, as, ts, items, n, m, rfl, X, st, k⟩ := h
    obtain ⟨dx, eo⟩ := X.own
    refine ⟨_, (pss_cons (ps_if (pt_not (pt_val (pe_ownM (pv 0) M_House_has_item (hr.mono (by decide)) (pa_cons (pv 1) pa_nil))))
    (pss_one (ps_ret (pe_lst (pa_cons (pe_cn T.c_NO_ITEM rfl) pa_nil))))
    pss_nil)
   (pss_cons (ps_if (pt_cmpR op_gt (pv 2) (pe_cn T.c_MOST_DIGITS rfl) (nomark _))
    (pss_one (ps_ret (pe_lst (pa_cons (pe_cn T.c_BAD_NUMBER rfl) pa_nil))))
    pss_nil)
   (pss_cons (ps_set (i := 3) sc_House_digits.nd rfl (Or.inl rfl) (pe_own D_item_span (hr.mono (by decide)) rfl (pa_cons (pe_fld (pv 0) rfl) (pa_cons (pv 1) pa_nil))))
   (pss_cons (ps_if (pt_cmpR op_isN (pv 3) pe_non (nomark _))
    (pss_one (ps_ret (pe_lst (pa_cons (pe_cn T.c_NOT_KNOWN rfl) pa_nil))))
    pss_nil)
   (pss_cons (ps_set (i := 4) sc_House_digits.nd rfl (Or.inl rfl) (pe_own D_shared_whole_part (hr.mono (by decide)) rfl (pa_cons (pv 3) (pa_cons (pe_own D_ten_times (hr.mono (by decide)) rfl (pa_cons (pv 2) pa_nil)) pa_nil))))
   (pss_cons (ps_if (pt_cmpR op_isN (pv 4) pe_non (nomark _))
    (pss_one (ps_ret (pe_lst (pa_cons (pe_cn T.c_NOT_KNOWN rfl) pa_nil))))
    pss_nil)
   (pss_one (ps_ret (pe_lst (pa_cons pe_int (pa_cons (pv 4) pa_nil))))))))))), ?_⟩
    have hn : (0 : Int) ≤ (n : Int) := by omega
    refine ⟨_, rfl, h, dx, _, rfl, eo, fH_no l (by decide +kernel), _, rfl, h, l, as, ts, items, n, rfl, X, hn, _, rfl, ?_⟩
    rw [Int.toNat_natCast]
    by_cases c : n < items.length
    · rw [decide_eq_true c]
      refine iteF ?_
      obtain ⟨kn, q, ek⟩ := known_some c
      have lg : Re04.LONG = 30 := rfl
      refine ⟨_, rfl, _, _, rfl, rfl, _, rfl, ?_⟩
      by_cases cm : Re04.LONG < m
      · rw [decide_eq_true (show (30 : Int) < (m : Int) by omega)]
        refine iteT ⟨(by show 1 ≤ sizeLine; decide), fun p hp => ?_⟩
        have es : Re04.step ⟨items⟩ (.digits n m) = (⟨items⟩, Re04.ok (-1)) := by
          simp only [Re04.step, Re04.State.known, ek, if_pos cm]
        rw [es] at k
        exact k.stay X p hp
      · rw [decide_eq_false (show ¬ (30 : Int) < (m : Int) by omega)]
        refine iteF ?_
        refine ⟨_, rfl, h, CH, dx, _, _, rfl, eo, T.clH, T.hE, fH_e l, _, rfl, h, l, as, ts, items, n, kn, q, rfl, X, st, ek, fun H1 v o s1 hv ho => ?_⟩
        match o, q, hv, ho, ek with
        | none, none, hv, _, ek =>
          have hv : v = .non := hv
          subst hv
          refine ⟨_, rfl, rfl, _, rfl, ?_⟩
          rw [decide_eq_true rfl]
          refine iteT ⟨(by show 1 ≤ sizeLine; decide), fun p hp => ?_⟩
          have es : Re04.step ⟨items⟩ (.digits n m) = (⟨items⟩, Re04.ok (-7)) := by
            simp only [Re04.step, Re04.State.known, ek, if_neg cm]
          rw [es] at k
          exact k.query X (s1.trans (same_upd hp)) upd_same (s1.free hp)
        | some S, some r, hv, ho, ek =>
          obtain ⟨u, rfl, hu⟩ := hv
          obtain ⟨rep, _⟩ := ho
          refine ⟨_, rfl, rfl, _, rfl, ?_⟩
          rw [dec_ref]
          refine iteF ?_
          have m30 : m ≤ 30 := by omega
          refine ⟨_, rfl, _, rfl, m, rfl, m30, u, S, _, rfl, hu, rep.ld, rep.gd, rep.b1, rep.b3, bd_small (ten_bd m30), ?_⟩
          rw [rep.digits m]
          have es : Re04.step ⟨items⟩ (.digits n m) = (⟨items⟩, match Re04.digits r m with
              | none => Re04.ok (-7)
              | some z => ⟨0, [z]⟩) := by
            simp only [Re04.step, Re04.State.known, ek, if_neg cm]
            rfl
          rw [es] at k
          cases ed : Re04.digits r m with
          | none =>
            rw [ed] at k
            refine ⟨_, rfl, rfl, _, rfl, ?_⟩
            rw [show optI none = V.non from rfl, decide_eq_true rfl]
            refine iteT ⟨(by show 1 ≤ sizeLine; decide), fun p hp => ?_⟩
            exact k.query X (s1.trans (same_upd hp)) upd_same (s1.free hp)
          | some z =>
            rw [ed] at k
            refine ⟨_, rfl, rfl, _, rfl, ?_⟩
            rw [show optI (some z) = V.int z from rfl, dec_int]
            refine iteF ⟨_, rfl, (by show 2 ≤ sizeLine; decide), fun p hp => ?_⟩
            exact k.query X (s1.trans (same_upd hp)) upd_same (s1.free hp)
        | none, some r, _, ho, _ => exact ho.elim
        | some S, none, _, ho, _ => exact ho.elim
    · rw [decide_eq_false c]
      refine iteT ⟨(by show 1 ≤ sizeLine; decide), fun p hp => ?_⟩
      have es : Re04.step ⟨items⟩ (.digits n m) = (⟨items⟩, Re04.ok (-2)) := by
        simp only [Re04.step, known_none c]
      rw [es] at k
      exact k.stay X p hp
/-! ### may -/
def spMayM (CS CN CH : Addr) : Sp := fun vs H Q _ => ∃ (h l : Addr) (as ts : List Addr) (items : List Item) (n : Nat) (z : Int) (d : Nat), vs = [.ref h, .int n, .int z, .int d] ∧ HouseAt CS CN CH H h l as ts items ∧ TQ.St ⟨items⟩ ∧ z.natAbs ≤ 1000000 ∧ d ≤ 1000000 ∧ After CS CN CH H h l as ts (Re04.step ⟨items⟩ (.may n z d)) Q
theorem sc_House_may : FnScope ["self", "item", "above", "below", "span"] ["self", "item", "above", "below"] (defScope s_House_may) := ⟨rfl, rfl, rfl, by decide +kernel, rfl, by decide +kernel, by decide +kernel⟩
theorem ok_may {f : Addr} {fd : FuncData} (F : Fun K "may" "House.may" s_House_may f fd) (T : Txt K mg CE CP CS CN CH) (M_House_has_item : HasM P w K mg base CH "has_item" 1 ["self", "item"] (spHasItem CS CN CH)) (D_item_span : Has P w K mg base "item_span" 37 ["entries", "item"] (spItemSpan CE CP CS CN CH))
    (D_lies_within : Has P w K mg base "lies_within" 2 ["span", "above", "below"] (spLies CE CP)) : FnOk P w K mg base CX0 38 f fd ["self", "item", "above", "below"] (spMayM CS CN CH) := by
  refine F.ok sc_House_may (fun vs H Q E h => ?_) (fun cdv A outer s H vs Q E hr h => ?_)
  · obtain ⟨h, l, as, ts, items, n, z, d, rfl, _⟩ := h
    rfl
  · obtain ⟨h, l, as, ts, items, n, z, d, rfl, X, st, hz, hd, k⟩ := h
    obtain ⟨dx, eo⟩ := X.own
    refine ⟨_, (pss_cons (ps_if (pt_not (pt_val (pe_ownM (pv 0) M_House_has_item (hr.mono (by decide)) (pa_cons (pv 1) pa_nil))))
    (pss_one (ps_ret (pe_lst (pa_cons (pe_cn T.c_NO_ITEM rfl) pa_nil))))
    pss_nil)
   (pss_cons (ps_if (pt_cmpR op_eq (pv 3) pe_int (nomark _))
    (pss_one (ps_ret (pe_lst (pa_cons (pe_cn T.c_BAD_NUMBER rfl) pa_nil))))
    pss_nil)
   (pss_cons (ps_set (i := 4) sc_House_may.nd rfl (Or.inl rfl) (pe_own D_item_span (hr.mono (by decide)) rfl (pa_cons (pe_fld (pv 0) rfl) (pa_cons (pv 1) pa_nil))))
   (pss_cons (ps_if (PW.pt (pw_or (pt_cmpR op_isN (pv 4) pe_non (nomark _)) (pw_or1 (pt_val (pe_own D_lies_within (hr.mono (by decide)) rfl (pa_cons (pv 4) (pa_cons (pv 2) (pa_cons (pv 3) pa_nil))))))))
    (pss_one (ps_ret (pe_lst (pa_cons pe_int pa_nil))))
    pss_nil)
   (pss_one (ps_ret (pe_lst (pa_cons pe_int pa_nil)))))))), ?_⟩
    have hn : (0 : Int) ≤ (n : Int) := by omega
    refine ⟨_, rfl, h, dx, _, rfl, eo, fH_no l (by decide +kernel), _, rfl, h, l, as, ts, items, n, rfl, X, hn, _, rfl, ?_⟩
    rw [Int.toNat_natCast]
    by_cases c : n < items.length
    · rw [decide_eq_true c]
      refine iteF ?_
      obtain ⟨kn, q, ek⟩ := known_some c
      refine ⟨_, rfl, rfl, _, rfl, ?_⟩
      rw [decI]
      by_cases cd : d = 0
      · rw [decide_eq_true (show (d : Int) = 0 by omega)]
        refine iteT ⟨(by show 1 ≤ sizeLine; decide), fun p hp => ?_⟩
        have es : Re04.step ⟨items⟩ (.may n z d) = (⟨items⟩, Re04.ok (-1)) := by
          simp only [Re04.step, Re04.State.known, ek, if_pos cd]
        rw [es] at k
        exact k.stay X p hp
      · rw [decide_eq_false (show ¬ (d : Int) = 0 by omega)]
        refine iteF ?_
        refine ⟨_, rfl, h, CH, dx, _, _, rfl, eo, T.clH, T.hE, fH_e l, _, rfl, h, l, as, ts, items, n, kn, q, rfl, X, st, ek, fun H1 v o s1 hv ho => ?_⟩
        match o, q, hv, ho, ek with
        | none, none, hv, _, ek =>
          have hv : v = .non := hv
          subst hv
          refine ⟨_, rfl, rfl, _, rfl, ?_⟩
          rw [decide_eq_true rfl]
          refine iteT ⟨(by show 1 ≤ sizeLine; decide), fun p hp => ?_⟩
          have es : Re04.step ⟨items⟩ (.may n z d) = (⟨items⟩, Re04.ok 1) := by
            simp only [Re04.step, Re04.State.known, ek, if_neg cd]
          rw [es] at k
          exact k.query X (s1.trans (same_upd hp)) upd_same (s1.free hp)
        | some S, some r, hv, ho, ek =>
          obtain ⟨u, rfl, hu⟩ := hv
          obtain ⟨rep, _⟩ := ho
          refine ⟨_, rfl, rfl, _, rfl, ?_⟩
          rw [dec_ref]
          refine iteF ?_
          have bz : Bd z := bd_small (Nat.lt_of_le_of_lt hz (by decide))
          have bd : Bd (d : Int) := bd_small (Nat.lt_of_le_of_lt (show ((d : Nat) : Int).natAbs ≤ 1000000 by omega) (by decide))
          have es : Re04.step ⟨items⟩ (.may n z d) = (⟨items⟩, Re04.ok (Re04.flag (r.has (Re04.Q.of z d)))) := by
            simp only [Re04.step, Re04.State.known, ek, if_neg cd]
          rw [es, ← rep.has z d (by omega)] at k
          refine ⟨_, rfl, _, rfl, _, rfl, u, S, z, (d : Int), rfl, hu, rep.b1, rep.b2, rep.b3, rep.b4, bz, bd, _, rfl, ?_⟩
          cases el : lies S z (d : Int) with
          | true =>
            rw [el] at k
            refine iteT ⟨(by show 1 ≤ sizeLine; decide), fun p hp => ?_⟩
            exact k.query X (s1.trans (same_upd hp)) upd_same (s1.free hp)
          | false =>
            rw [el] at k
            refine iteF ⟨(by show 1 ≤ sizeLine; decide), fun p hp => ?_⟩
            exact k.query X (s1.trans (same_upd hp)) upd_same (s1.free hp)
        | none, some r, _, ho, _ => exact ho.elim
        | some S, none, _, ho, _ => exact ho.elim
    · rw [decide_eq_false c]
      refine iteT ⟨(by show 1 ≤ sizeLine; decide), fun p hp => ?_⟩
      have es : Re04.step ⟨items⟩ (.may n z d) = (⟨items⟩, Re04.ok (-2)) := by
        simp only [Re04.step, known_none c]
      rw [es] at k
      exact k.stay X p hp
end
end Sv

set_option Elab.async false
set_option maxRecDepth 100000
set_option maxHeartbeats 2000000
namespace Sv
open PySem PySem.Spec PyProof.Rows L2 Hb
open PySem.W (Codec)
open Re04 (Item Known)
open TQ (CallIs Calls run)
theorem callIs_split {l t : List Int} {x : Re04.Call} (h : CallIs l x t) : ∃ cs, l = cs ++ t ∧ CallIs cs x [] ∧ 0 < cs.length := by
  cases h with
  | begin => exact ⟨[0], rfl, .begin _, by simp⟩
  | stream => exact ⟨[1], rfl, .stream _, by simp⟩
  | feed i a _ h => exact ⟨[2, i, a], rfl, .feed _ _ _ h, by simp⟩
  | close i _ h => exact ⟨[3, i], rfl, .close _ _ h, by simp⟩
  | node u v row _ hx hy hl => exact ⟨4 :: u :: v :: (row.length : Int) :: row, rfl, by have := CallIs.node u v row [] hx hy hl; rwa [List.append_nil] at this, by simp⟩
  | sure i _ h => exact ⟨[5, i], rfl, .sure _ _ h, by simp⟩
  | range i _ h => exact ⟨[6, i], rfl, .range _ _ h, by simp⟩
  | digits i p _ h hp => exact ⟨[7, i, p], rfl, .digits _ _ _ h hp, by simp⟩
  | may i n d _ h hd hn hd' => exact ⟨[8, i, n, d], rfl, .may _ _ _ _ h hd hn hd', by simp⟩
theorem calls_cons {l : List Int} {xs : List Re04.Call} (h : Calls l xs) (ne : l ≠ []) : ∃ x t ys, xs = x :: ys ∧ CallIs l x t ∧ Calls t ys := by
  cases h with
  | nil => exact absurd rfl ne
  | cons h r => exact ⟨_, _, _, rfl, h, r⟩
theorem calls_nil {xs : List Re04.Call} (h : Calls [] xs) : xs = [] := by
  cases h with
  | nil => rfl
  | cons h r => cases h
theorem cut_mid (pre cs t : List Int) : cutV ((pre ++ cs ++ t).map V.int) (some (pre.length : Int)) (some ((pre.length : Int) + (cs.length : Int))) = cs.map V.int := by
  unfold cutV
  have e1 : (pre.length : Int) + (cs.length : Int) = ((pre.length + cs.length : Nat) : Int) := by omega
  rw [e1, HT.sIx_nat, HT.sIx_nat]
  simp only [List.length_map, List.length_append]
  rw [Nat.min_eq_left (by omega), Nat.min_eq_left (by omega), Nat.add_sub_cancel_left, ← List.map_drop, ← List.map_take]
  congr 1
  rw [List.append_assoc, List.drop_left, List.take_left]
section
variable {P : Program} {w : World} {K : PySem.W.Frag} {mg : Str → Option Value} {base : Heap} {CE CP CS CN CH : Addr}
def spCallLength (K : PySem.W.Frag) : Sp := fun vs H Q _ => ∃ (q : Addr) (pre cs t : List Int) (x : Re04.Call), vs = [.ref q, .int pre.length] ∧ SqL K H q ((pre ++ cs ++ t).map V.int) ∧ CallIs cs x [] ∧ Q (.int cs.length) H
def spAnswer (K : PySem.W.Frag) (CS CN CH : Addr) : Sp := fun vs H Q _ => ∃ (h l c : Addr) (as ts : List Addr) (items : List Item) (cs : List Int) (x : Re04.Call), vs = [.ref h, .ref c] ∧ HouseAt CS CN CH H h l as ts items ∧ TQ.St ⟨items⟩ ∧ SqL K H c (cs.map V.int) ∧ CallIs cs x [] ∧
  After CS CN CH H h l as ts (Re04.step ⟨items⟩ x) Q
def spAnswers (K : PySem.W.Frag) : Sp := fun vs H Q _ => ∃ (q : Addr) (ns : List Int) (xs : List Re04.Call), vs = [.ref q] ∧ SqL K H q (ns.map V.int) ∧ Calls ns xs ∧ (run Re04.init xs).length ≤ 10000000 ∧
  ∀ (H' : Hp) (p : Addr), H' p = some (.lst ((run Re04.init xs).map V.int)) → Q (.ref p) H'
theorem HouseAt.keep {H H' : Hp} {h l o : Addr} {as ts : List Addr} {items : List Item} (X : HouseAt CS CN CH H h l as ts items) (k : Kept (fun b => b = o) H H') (n : ¬ Ft h l as ts o) : HouseAt CS CN CH H' h l as ts items := by
  have key : ∀ b u, Ft h l as ts b → H b = some u → H' b = some u := fun b u f e => k b u e fun q => n (q ▸ f)
  refine ⟨let ⟨dx, e⟩ := X.own; ⟨dx, key _ _ (.inl rfl) e⟩, key _ _ (.inr (.inl rfl)) X.lst, X.la, X.lt, X.nda, X.ndt, fun i a t it h1 h2 h3 => ?_⟩
  have fa : Ft h l as ts a := .inr (.inr (.inl (List.mem_of_getElem? h1)))
  have ft : Ft h l as ts t := .inr (.inr (.inr (List.mem_of_getElem? h2)))
  have z := X.at_ i a t it h1 h2 h3
  cases it with
  | stream k => exact ⟨let ⟨dx, e⟩ := z.1; ⟨dx, key _ _ fa e⟩, key _ _ ft z.2⟩
  | node F u v => exact ⟨let ⟨dx, e⟩ := z.1; ⟨dx, key _ _ fa e⟩, key _ _ ft z.2⟩
/-- between two turns of the loop of answers -/
def Lp (CS CN CH : Addr) (H : Hp) (ns : List Int) (xs0 : List Re04.Call) (q hh o : Addr) (m : Nat) (σ : L2.St) (H' : Hp) : Prop := ∃ (pre rest out : List Int) (xs : List Re04.Call) (items : List Item) (l : Addr) (as ts : List Addr) (v4 v5 : Option V),
  m = rest.length ∧ ns = pre ++ rest ∧ σ = [some (.ref q), some (.ref hh), some (.ref o), some (.int pre.length), v4, v5] ∧ Calls rest xs ∧ TQ.St ⟨items⟩ ∧ HouseAt CS CN CH H' hh l as ts items ∧ H' o = some (.lst (out.map V.int)) ∧ ¬ Ft hh l as ts o ∧
  Same H H' ∧ (∀ b, Ft hh l as ts b → H b = none) ∧ H o = none ∧ out ++ run ⟨items⟩ xs = run Re04.init xs0
theorem sc_answers : FnScope ["calls", "house", "told", "at", "length", "answered"] ["calls"] (defScope s_answers) := ⟨rfl, rfl, rfl, by decide +kernel, rfl, by decide +kernel, by decide +kernel⟩
theorem ok_answers {f : Addr} {fd : FuncData} (F : Fun K "answers" "answers" s_answers f fd) (T : Txt K mg CE CP CS CN CH) (I_House : HasC P w K mg base "House" CH 1 ["self"] (spInitH CH)) (D_call_length : Has P w K mg base "call_length" 1 ["calls", "at"] (spCallLength K))
    (D_answer : Has P w K mg base "answer" 39 ["house", "call"] (spAnswer K CS CN CH)) : FnOk P w K mg base CX0 40 f fd ["calls"] (spAnswers K) := by
  refine F.ok sc_answers (fun vs H Q E h => ?_) (fun cdv A outer s H vs Q E hr h => ?_)
  · obtain ⟨q, ns, xs, rfl, _⟩ := h
    rfl
  · obtain ⟨q, ns, xs0, rfl, hS, hC, hL, k⟩ := h
    refine ⟨_, (pss_cons (ps_set (i := 1) sc_answers.nd rfl (Or.inl rfl) (pe_ownC0 I_House (hr.mono (by decide)) rfl))
   (pss_cons (ps_set (i := 2) sc_answers.nd rfl (Or.inl rfl) (pe_lst pa_nil))
   (pss_cons (ps_set (i := 3) sc_answers.nd rfl (Or.inl rfl) pe_int)
   (pss_cons (ps_while PassesOwn.never (pt_cmpR op_lt (pv 3) (pe_callB call_len_seq (by rfl) T.n_len PySem.boot_len (pa_cons (pv 0) pa_nil)) (nomark _))
    (pss_cons (ps_set (i := 4) sc_answers.nd rfl (Or.inl rfl) (pe_own D_call_length (hr.mono (by decide)) rfl (pa_cons (pv 0) (pa_cons (pv 3) pa_nil))))
   (pss_cons (ps_set (i := 5) sc_answers.nd rfl (Or.inl rfl) (pe_own D_answer (hr.mono (by decide)) rfl (pa_cons (pv 1) (pa_cons (pe_slice sl_list (pv 0) (po_some (pv 3)) (po_some (pe_op op_add (pv 3) (pv 4)))) pa_nil))))
   (pss_cons (ps_expr (pe_bm PySem.F.plainAttrs_list PySem.F.slot_list_append PySem.F.type_list_append mt_append (pv 2) (pa_cons (pe_callB call_len_seq (by rfl) T.n_len PySem.boot_len (pa_cons (pv 5) pa_nil)) pa_nil)))
   (pss_cons (ps_expr (pe_bm PySem.F.plainAttrs_list PySem.F.slot_list_extend PySem.F.type_list_extend mt_extend (pv 2) (pa_cons (pv 5) pa_nil)))
   (pss_one (ps_set (i := 3) sc_answers.nd rfl (Or.inl rfl) (pe_op op_add (pv 3) (pv 4)))))))))
   (pss_one (ps_ret (pv 2))))))), ?_⟩
    -- house = House()
    intro hh dh nh ndh ne
    refine ⟨hh, dh, rfl, upd_same, fun H1 l0 nl0 hH hl0 kp => ⟨rfl, ?_⟩⟩
    have s1 : Same H H1 := Same.made nh ndh kp
    have nl0' : H l0 = none := by
      cases e : H l0 with
      | none => rfl
      | some o =>
        rw [upd_ne (ne_of_none e nh), upd_ne (ne_of_none e ndh), e] at nl0
        cases nl0
    have X1 : HouseAt CS CN CH H1 hh l0 [] [] [] := ⟨⟨dh, hH⟩, hl0, rfl, rfl, by simp, by simp, fun i a t it h1 => by simp at h1⟩
    -- told = []
    refine ⟨Nat.zero_le _, fun o no => ?_⟩
    have s2 : Same H1 (upd H1 o (.lst [])) := same_upd no
    -- the loop
    refine ⟨Lp CS CN CH H ns xs0 q hh o, ⟨ns.length, [], ns, [], xs0, [], l0, [], [], none, none, rfl, rfl, rfl, hC, TQ.st_init, X1.same s2, upd_same, X1.not_new no, s1.trans s2, ?_, s1.free no, rfl⟩, ?_⟩
    · rintro b (f | f | f | f)
      · rw [f]; exact nh
      · rw [f]; exact nl0'
      · cases f
      · cases f
    rintro m σ H' ⟨pre, rest, out, xs, items, l, as, ts, v4, v5, rfl, ens, rfl, hc, st, X, ho, nf, sH, fr, no0, er⟩
    subst ens
    have hq : SqL K H' q ((pre ++ rest).map V.int) := sH.seq hS
    refine ⟨_, rfl, _, rfl, q, _, rfl, .inl hq, _, _, rfl, rfl, _, rfl, ?_⟩
    rw [List.length_map, List.length_append]
    by_cases c : rest = []
    · subst c
      rw [decide_eq_false (by simp)]
      refine iteF ?_
      refine ⟨_, rfl, k H' o ?_⟩
      rw [ho]
      have := calls_nil hc
      subst this
      have er : out ++ [] = run Re04.init xs0 := er
      rw [List.append_nil] at er
      rw [er]
    · have cpos : 0 < rest.length := List.length_pos_iff.mpr c
      rw [decide_eq_true (by omega)]
      refine iteT ?_
      obtain ⟨x, t, ys, rfl, hx, hy⟩ := calls_cons hc c
      obtain ⟨cs, rfl, hx0, hpos⟩ := callIs_split hx
      rw [← List.append_assoc] at hq
      refine ⟨fun σ2 H2 => ∃ m', m' < (cs ++ t).length ∧ Lp CS CN CH H (pre ++ (cs ++ t)) xs0 q hh o m' σ2 H2, fun _ _ z => z, ?_⟩
      -- length = call_length(calls, at)
      refine ⟨_, rfl, _, rfl, q, pre, cs, t, x, rfl, hq, hx0, ?_⟩
      -- answered = answer(house, calls[at:at + length])
      refine ⟨_, rfl, _, rfl, _, rfl, _, rfl, _, rfl, _, rfl, _, _, rfl, rfl, _, rfl, q, _, rfl, hq, fun pc npc => ?_⟩
      rw [cut_mid]
      have s3 : Same H' (upd H' pc (.lst (cs.map V.int))) := same_upd npc
      refine ⟨hh, l, pc, as, ts, items, cs, x, rfl, X.same s3, st, SqL.of upd_same, hx0, fun H2 l2 as2 ts2 p X2 fr2 kp2 hp np => ?_⟩
      -- told.append(len(answered))
      have sH2 : Same H H2 := fun b u e => kp2 b u (s3 b u (sH b u e)) fun f => by rw [fr b f] at e; cases e
      have ho2 : H2 o = some (.lst (out.map V.int)) := kp2 o _ (s3 _ _ ho) nf
      have nop : o ≠ p := ne_of_none (s3 _ _ ho) np
      have er' : out ++ ((((Re04.step ⟨items⟩ x).2.l.length + 1 : Nat) : Int) :: (Re04.step ⟨items⟩ x).2.v :: (Re04.step ⟨items⟩ x).2.l ++ run (Re04.step ⟨items⟩ x).1 ys) = run Re04.init xs0 := er
      have lens : out.length + ((Re04.step ⟨items⟩ x).2.l.length + 2) ≤ 10000000 := by
        have := congrArg List.length er'
        simp only [List.length_append, List.length_cons] at this
        omega
      have big : 10000000 < sizeLine := by decide
      refine ⟨_, rfl, .inl ⟨rfl, _, SqL.of ho2⟩, _, rfl, p, _, rfl, .inl (SqL.of hp), o, _, _, rfl, rfl, ho2, ?_, ?_⟩
      · rw [List.length_map]
        omega
      refine ⟨_, rfl, .inl ⟨rfl, _, SqL.of upd_same⟩, _, rfl, o, p, _, ((Re04.step ⟨items⟩ x).2.v :: (Re04.step ⟨items⟩ x).2.l).map V.int, rfl, rfl, upd_same, ?_, ?_, ?_⟩
      · rw [upd_ne (Ne.symm nop)]
        exact hp
      · simp only [List.length_append, List.length_map, List.length_cons, List.length_nil]
        omega
      refine ⟨_, rfl, _, rfl, _, _, rfl, rfl, ?_⟩
      have no2 : ¬ Ft hh l2 as2 ts2 o := fun f => (fr2 o f).elim nf fun e => by rw [s3 _ _ ho] at e; cases e
      have so : Kept (fun b => b = o) H2 (upd (upd H2 o (.lst (out.map V.int ++ [V.int (((((Re04.step ⟨items⟩ x).2.v :: (Re04.step ⟨items⟩ x).2.l).map V.int).length : Nat) : Int)]))) o
        (.lst (out.map V.int ++ [V.int (((((Re04.step ⟨items⟩ x).2.v :: (Re04.step ⟨items⟩ x).2.l).map V.int).length : Nat) : Int)] ++ ((Re04.step ⟨items⟩ x).2.v :: (Re04.step ⟨items⟩ x).2.l).map V.int))) := fun b u e n => by
        rw [upd_ne n, upd_ne n]
        exact e
      refine ⟨t.length, by simp only [List.length_append]; omega, pre ++ cs, t, out ++ ((((Re04.step ⟨items⟩ x).2.l.length + 1 : Nat) : Int) :: (Re04.step ⟨items⟩ x).2.v :: (Re04.step ⟨items⟩ x).2.l), ys, (Re04.step ⟨items⟩ x).1.items, l2, as2, ts2, some (.int cs.length), some (.ref p), rfl, by simp, ?_, hy, st.step x, X2.keep so no2, ?_, no2, ?_, ?_, no0, ?_⟩
      · have e : ((pre.length : Int) + (cs.length : Int)) = (((pre ++ cs).length : Nat) : Int) := by simp
        rw [← e]
        rfl
      · rw [upd_same]
        simp
      · intro b u e
        exact so b u (sH2 b u e) fun q => by rw [q, no0] at e; cases e
      · intro b f
        rcases fr2 b f with g | g
        · exact fr b g
        · exact sH.free (s3.free g)
      · rw [List.append_assoc]
        exact er'
end
end Sv

set_option Elab.async false
set_option maxRecDepth 100000
set_option maxHeartbeats 4000000
namespace Sv
open PySem PySem.Spec PyProof.Rows L2 Hb
open PySem.W (Codec)
open Re04 (Item Known)
open TQ (CallIs Calls run)
theorem sc_call_length : FnScope ["calls", "at", "number", "length"] ["calls", "at"] (defScope s_call_length) := ⟨rfl, rfl, rfl, by decide +kernel, rfl, by decide +kernel, by decide +kernel⟩
theorem ok_call_length {P : Program} {w : World} {K : PySem.W.Frag} {mg : Str → Option Value} {base : Heap} {CE CP CS CN CH : Addr} {f : Addr} {fd : FuncData} (F : Fun K "call_length" "call_length" s_call_length f fd) (T : Txt K mg CE CP CS CN CH) : FnOk P w K mg base CX0 1 f fd ["calls", "at"] (spCallLength K) := by
  refine F.ok sc_call_length (fun vs H Q E h => ?_) (fun cdv A outer s H vs Q E hr h => ?_)
  · obtain ⟨q, pre, cs, t, x, rfl, _⟩ := h
    rfl
  · obtain ⟨q, pre, cs, t, x, rfl, hS, hx, k⟩ := h
    have at0 : ∀ (j : Nat) (v : Int), cs[j]? = some v → atI ((pre ++ cs ++ t).map V.int) ((pre.length : Int) + (j : Int)) = some (.int v) := fun j v e => by
      refine at_of (j := pre.length + j) (by omega) ?_
      rw [List.getElem?_map, List.append_assoc, List.getElem?_append_right (by omega), Nat.add_sub_cancel_left, List.getElem?_append_left (List.getElem?_eq_some_iff.mp e).1, e]
      rfl
    have at00 : ∀ (v : Int), cs[0]? = some v → atI ((pre ++ cs ++ t).map V.int) (pre.length : Int) = some (.int v) := fun v e => by
      have := at0 0 v e
      rwa [show (pre.length : Int) + ((0 : Nat) : Int) = pre.length by omega] at this
    have hL := T.t_LENGTHS.choose_spec.2 H
    -- the call's number z, its length n by the table
    have plain : ∀ (z n : Int), cs[0]? = some z → atI (([1, 1, 3, 2, 4, 2, 2, 3, 4] : List Int).map V.int) z = some (.int n) → z ≠ 4 → n = cs.length → ∃ t, PSs (cxOf CX0 P w K mg base ["calls", "at", "number", "length"] "call_length" (defScope s_call_length) f cdv A outer s H E).nox (defBody s_call_length) t ∧ t { nx := fun _ H' => Q .non H', rt := Q } (L2.start ["calls", "at", "number", "length"] [V.ref q, V.int pre.length]) H := fun z n e0 e1 ne en => by
      refine ⟨_, (pss_cons (ps_set (i := 2) sc_call_length.nd rfl (Or.inl rfl) (pe_ix ix_list (pv 0) (pv 1) (fun _ _ => rfl)))
   (pss_cons (ps_set (i := 3) sc_call_length.nd rfl (Or.inl rfl) (pe_ix ix_tup (pe_glob (v := .ref _) rfl T.t_LENGTHS.choose_spec.1 rfl) (pv 2) (fun _ _ => rfl)))
   (pss_cons (ps_if (pt_cmpR op_eq (pv 2) (pe_cn T.c_NODE rfl) (nomark _))
    (pss_one (ps_set (i := 3) sc_call_length.nd rfl (Or.inl rfl) (pe_op op_add (pv 3) (pe_ix ix_list (pv 0) (pe_op op_add (pv 1) pe_int) (fun _ _ => rfl)))))
    pss_nil)
   (pss_one (ps_ret (pv 3)))))), ?_⟩
      refine ⟨_, rfl, _, rfl, q, _, _, .int z, rfl, rfl, hS, at00 z e0, ?_⟩
      refine ⟨_, rfl, _, _, _, .int n, rfl, rfl, hL, e1, ?_⟩
      refine ⟨_, rfl, rfl, _, rfl, ?_⟩
      rw [decI, decide_eq_false ne]
      refine iteF ?_
      refine ⟨_, rfl, ?_⟩
      rw [en]
      exact k
    cases hx with
    | begin => exact plain 0 1 rfl (atI_nat (j := 0) rfl) (by omega) rfl
    | stream => exact plain 1 1 rfl (atI_nat (j := 1) rfl) (by omega) rfl
    | feed i a _ h => exact plain 2 3 rfl (atI_nat (j := 2) rfl) (by omega) rfl
    | close i _ h => exact plain 3 2 rfl (atI_nat (j := 3) rfl) (by omega) rfl
    | node u v row _ h1 h2 h3 =>
      refine ⟨_, (pss_cons (ps_set (i := 2) sc_call_length.nd rfl (Or.inl rfl) (pe_ix ix_list (pv 0) (pv 1) (fun _ _ => rfl)))
   (pss_cons (ps_set (i := 3) sc_call_length.nd rfl (Or.inl rfl) (pe_ix ix_tup (pe_glob (v := .ref _) rfl T.t_LENGTHS.choose_spec.1 rfl) (pv 2) (fun _ _ => rfl)))
   (pss_cons (ps_if (pt_cmpR op_eq (pv 2) (pe_cn T.c_NODE rfl) (nomark _))
    (pss_one (ps_set (i := 3) sc_call_length.nd rfl (Or.inl rfl) (pe_op op_add (pv 3) (pe_ix ix_list (pv 0) (pe_op op_add (pv 1) pe_int) (fun _ _ => rfl)))))
    pss_nil)
   (pss_one (ps_ret (pv 3)))))), ?_⟩
      refine ⟨_, rfl, _, rfl, q, _, _, .int 4, rfl, rfl, hS, at00 4 rfl, ?_⟩
      refine ⟨_, rfl, _, _, _, .int 4, rfl, rfl, hL, atI_nat (j := 4) rfl, ?_⟩
      refine ⟨_, rfl, rfl, _, rfl, ?_⟩
      rw [decI, decide_eq_true rfl]
      refine iteT ?_
      refine ⟨_, rfl, _, rfl, _, rfl, _, _, rfl, rfl, q, _, _, .int row.length, rfl, rfl, hS, at0 3 _ rfl, _, _, rfl, rfl, ?_⟩
      refine ⟨_, rfl, ?_⟩
      have e : (4 : Int) + (row.length : Int) = (((4 :: u :: v :: (row.length : Int) :: (row ++ [])).length : Nat) : Int) := by simp; omega
      rw [← e] at k
      exact k
    | sure i _ h => exact plain 5 2 rfl (atI_nat (j := 5) rfl) (by omega) rfl
    | range i _ h => exact plain 6 2 rfl (atI_nat (j := 6) rfl) (by omega) rfl
    | digits i p _ h hp => exact plain 7 3 rfl (atI_nat (j := 7) rfl) (by omega) rfl
    | may i n d _ h hd hn hd' => exact plain 8 4 rfl (atI_nat (j := 8) rfl) (by omega) rfl
theorem sc_answer : FnScope ["house", "call", "number"] ["house", "call"] (defScope s_answer) := ⟨rfl, rfl, rfl, by decide +kernel, rfl, by decide +kernel, by decide +kernel⟩
theorem ok_answer {P : Program} {w : World} {K : PySem.W.Frag} {mg : Str → Option Value} {base : Heap} {CE CP CS CN CH : Addr} {f : Addr} {fd : FuncData} (F : Fun K "answer" "answer" s_answer f fd) (T : Txt K mg CE CP CS CN CH)
    (M_House_begin : HasM P w K mg base CH "begin" 1 ["self"] (spBegin CS CN CH)) (M_House_stream : HasM P w K mg base CH "stream" 3 ["self"] (spStream CS CN CH)) (M_House_feed : HasM P w K mg base CH "feed" 3 ["self", "item", "term"] (spFeed CS CN CH))
    (M_House_close : HasM P w K mg base CH "close" 3 ["self", "item"] (spClose CS CN CH)) (M_House_node : HasM P w K mg base CH "node" 3 ["self", "x", "y", "numbers"] (spNode K CS CN CH)) (M_House_sure : HasM P w K mg base CH "sure" 38 ["self", "item"] (spSureM CS CN CH))
    (M_House_ends : HasM P w K mg base CH "ends" 38 ["self", "item"] (spEndsM CS CN CH)) (M_House_digits : HasM P w K mg base CH "digits" 38 ["self", "item", "count"] (spDigitsM CS CN CH)) (M_House_may : HasM P w K mg base CH "may" 38 ["self", "item", "above", "below"] (spMayM CS CN CH)) : FnOk P w K mg base CX0 39 f fd ["house", "call"] (spAnswer K CS CN CH) := by
  refine F.ok sc_answer (fun vs H Q E h => ?_) (fun cdv A outer s H vs Q E hr h => ?_)
  · obtain ⟨h, l, c, as, ts, items, cs, x, rfl, _⟩ := h
    rfl
  · obtain ⟨h, l, c, as, ts, items, cs, x, rfl, X, st, hS, hx, k⟩ := h
    obtain ⟨dx, eo⟩ := X.own
    refine ⟨_, (pss_cons (ps_set (i := 2) sc_answer.nd rfl (Or.inl rfl) (pe_ix ix_list (pv 1) pe_int (fun _ _ => rfl)))
   (pss_cons (ps_if (pt_cmpR op_eq (pv 2) (pe_cn T.c_BEGIN rfl) (nomark _))
    (pss_one (ps_ret (pe_ownM0 (pv 0) M_House_begin (hr.mono (by decide)))))
    pss_nil)
   (pss_cons (ps_if (pt_cmpR op_eq (pv 2) (pe_cn T.c_STREAM rfl) (nomark _))
    (pss_one (ps_ret (pe_ownM0 (pv 0) M_House_stream (hr.mono (by decide)))))
    pss_nil)
   (pss_cons (ps_if (pt_cmpR op_eq (pv 2) (pe_cn T.c_FEED rfl) (nomark _))
    (pss_one (ps_ret (pe_ownM (pv 0) M_House_feed (hr.mono (by decide)) (pa_cons (pe_ix ix_list (pv 1) pe_int (fun _ _ => rfl)) (pa_cons (pe_ix ix_list (pv 1) pe_int (fun _ _ => rfl)) pa_nil)))))
    pss_nil)
   (pss_cons (ps_if (pt_cmpR op_eq (pv 2) (pe_cn T.c_CLOSE rfl) (nomark _))
    (pss_one (ps_ret (pe_ownM (pv 0) M_House_close (hr.mono (by decide)) (pa_cons (pe_ix ix_list (pv 1) pe_int (fun _ _ => rfl)) pa_nil))))
    pss_nil)
   (pss_cons (ps_if (pt_cmpR op_eq (pv 2) (pe_cn T.c_NODE rfl) (nomark _))
    (pss_one (ps_ret (pe_ownM (pv 0) M_House_node (hr.mono (by decide)) (pa_cons (pe_ix ix_list (pv 1) pe_int (fun _ _ => rfl)) (pa_cons (pe_ix ix_list (pv 1) pe_int (fun _ _ => rfl)) (pa_cons (pe_slice sl_list (pv 1) (po_some pe_int) po_none) pa_nil))))))
    pss_nil)
   (pss_cons (ps_if (pt_cmpR op_eq (pv 2) (pe_cn T.c_SURE rfl) (nomark _))
    (pss_one (ps_ret (pe_ownM (pv 0) M_House_sure (hr.mono (by decide)) (pa_cons (pe_ix ix_list (pv 1) pe_int (fun _ _ => rfl)) pa_nil))))
    pss_nil)
   (pss_cons (ps_if (pt_cmpR op_eq (pv 2) (pe_cn T.c_RANGE rfl) (nomark _))
    (pss_one (ps_ret (pe_ownM (pv 0) M_House_ends (hr.mono (by decide)) (pa_cons (pe_ix ix_list (pv 1) pe_int (fun _ _ => rfl)) pa_nil))))
    pss_nil)
   (pss_cons (ps_if (pt_cmpR op_eq (pv 2) (pe_cn T.c_DIGITS rfl) (nomark _))
    (pss_one (ps_ret (pe_ownM (pv 0) M_House_digits (hr.mono (by decide)) (pa_cons (pe_ix ix_list (pv 1) pe_int (fun _ _ => rfl)) (pa_cons (pe_ix ix_list (pv 1) pe_int (fun _ _ => rfl)) pa_nil)))))
    pss_nil)
   (pss_one (ps_ret (pe_ownM (pv 0) M_House_may (hr.mono (by decide)) (pa_cons (pe_ix ix_list (pv 1) pe_int (fun _ _ => rfl)) (pa_cons (pe_ix ix_list (pv 1) pe_int (fun _ _ => rfl)) (pa_cons (pe_ix ix_list (pv 1) pe_int (fun _ _ => rfl)) pa_nil))))))))))))))), ?_⟩
    have at0 : ∀ (j : Nat) (v : Int), cs[j]? = some v → atI (cs.map V.int) (j : Int) = some (.int v) := fun j v e => atI_nat (by rw [List.getElem?_map, e]; rfl)
    cases hx with
    | begin =>
      refine ⟨_, rfl, c, _, _, .int 0, rfl, rfl, hS, at0 0 0 rfl, _, rfl, rfl, _, rfl, ?_⟩
      rw [decI, decide_eq_true rfl]
      refine iteT ?_
      exact ⟨_, rfl, h, dx, _, rfl, eo, fH_no l (by decide +kernel), h, l, as, ts, items, rfl, X, k⟩
    | stream =>
      refine ⟨_, rfl, c, _, _, .int 1, rfl, rfl, hS, at0 0 1 rfl, _, rfl, rfl, _, rfl, ?_⟩
      rw [decI, decide_eq_false (by omega)]
      refine iteF ⟨_, rfl, rfl, _, rfl, ?_⟩
      rw [decI, decide_eq_true rfl]
      refine iteT ?_
      exact ⟨_, rfl, h, dx, _, rfl, eo, fH_no l (by decide +kernel), h, l, as, ts, items, rfl, X, st.most, k⟩
    | feed i a _ hi =>
      refine ⟨_, rfl, c, _, _, .int 2, rfl, rfl, hS, at0 0 2 rfl, _, rfl, rfl, _, rfl, ?_⟩
      rw [decI, decide_eq_false (by omega)]
      refine iteF ⟨_, rfl, rfl, _, rfl, ?_⟩
      rw [decI, decide_eq_false (by omega)]
      refine iteF ⟨_, rfl, rfl, _, rfl, ?_⟩
      rw [decI, decide_eq_true rfl]
      refine iteT ?_
      exact ⟨_, rfl, h, dx, _, rfl, eo, fH_no l (by decide +kernel), _, rfl, c, _, _, .int i, rfl, rfl, hS, at0 1 i rfl, _, rfl, c, _, _, .int a, rfl, rfl, hS, at0 2 a rfl, h, l, as, ts, items, i, a, rfl, X, hi, st, k⟩
    | close i _ hi =>
      refine ⟨_, rfl, c, _, _, .int 3, rfl, rfl, hS, at0 0 3 rfl, _, rfl, rfl, _, rfl, ?_⟩
      rw [decI, decide_eq_false (by omega)]
      refine iteF ⟨_, rfl, rfl, _, rfl, ?_⟩
      rw [decI, decide_eq_false (by omega)]
      refine iteF ⟨_, rfl, rfl, _, rfl, ?_⟩
      rw [decI, decide_eq_false (by omega)]
      refine iteF ⟨_, rfl, rfl, _, rfl, ?_⟩
      rw [decI, decide_eq_true rfl]
      refine iteT ?_
      exact ⟨_, rfl, h, dx, _, rfl, eo, fH_no l (by decide +kernel), _, rfl, c, _, _, .int i, rfl, rfl, hS, at0 1 i rfl, h, l, as, ts, items, i, rfl, X, hi, k⟩
    | node u v row _ hu hv hl =>
      refine ⟨_, rfl, c, _, _, .int 4, rfl, rfl, hS, at0 0 4 rfl, _, rfl, rfl, _, rfl, ?_⟩
      rw [decI, decide_eq_false (by omega)]
      refine iteF ⟨_, rfl, rfl, _, rfl, ?_⟩
      rw [decI, decide_eq_false (by omega)]
      refine iteF ⟨_, rfl, rfl, _, rfl, ?_⟩
      rw [decI, decide_eq_false (by omega)]
      refine iteF ⟨_, rfl, rfl, _, rfl, ?_⟩
      rw [decI, decide_eq_false (by omega)]
      refine iteF ⟨_, rfl, rfl, _, rfl, ?_⟩
      rw [decI, decide_eq_true rfl]
      refine iteT ?_
      refine ⟨_, rfl, h, dx, _, rfl, eo, fH_no l (by decide +kernel), _, rfl, c, _, _, .int u, rfl, rfl, hS, at0 1 u rfl, _, rfl, c, _, _, .int v, rfl, rfl, hS, at0 2 v rfl, _, rfl, _, rfl, c, _, rfl, hS, fun p hp => ?_⟩
      have e : cutV ((4 :: u :: v :: (row.length : Int) :: (row ++ [])).map V.int) (some 4) none = row.map V.int := by
        unfold cutV
        have e4 : HT.sIx ((4 :: u :: v :: (row.length : Int) :: (row ++ [])).map V.int).length 0 (some 4) = 4 := by
          have := HT.sIx_nat ((4 :: u :: v :: (row.length : Int) :: (row ++ [])).map V.int).length 0 4
          rw [show ((4 : Nat) : Int) = 4 from rfl] at this
          rw [this]
          simp only [List.length_map, List.length_cons, List.length_append]
          omega
        rw [e4, HT.sIx_none]
        simp
        exact List.take_of_length_le (by simp)
      rw [e]
      refine ⟨h, l, p, as, ts, items, u, v, row, rfl, X.same (same_upd hp), SqL.of upd_same, by omega, hu, hv, st.most, fun H' l' as' ts' p' X' f' k' hp' np' => ?_⟩
      exact k H' l' as' ts' p' X' (fun b f => (f' b f).imp id fun e => (same_upd hp).free e) (fun b o e n => k' b o (same_upd hp b o e) n) hp' ((same_upd hp).free np')
    | sure i _ hi =>
      obtain ⟨ji, rfl⟩ : ∃ j : Nat, i = j := ⟨i.toNat, by omega⟩
      rw [Int.toNat_natCast] at k
      refine ⟨_, rfl, c, _, _, .int 5, rfl, rfl, hS, at0 0 5 rfl, _, rfl, rfl, _, rfl, ?_⟩
      rw [decI, decide_eq_false (by omega)]
      refine iteF ⟨_, rfl, rfl, _, rfl, ?_⟩
      rw [decI, decide_eq_false (by omega)]
      refine iteF ⟨_, rfl, rfl, _, rfl, ?_⟩
      rw [decI, decide_eq_false (by omega)]
      refine iteF ⟨_, rfl, rfl, _, rfl, ?_⟩
      rw [decI, decide_eq_false (by omega)]
      refine iteF ⟨_, rfl, rfl, _, rfl, ?_⟩
      rw [decI, decide_eq_false (by omega)]
      refine iteF ⟨_, rfl, rfl, _, rfl, ?_⟩
      rw [decI, decide_eq_true rfl]
      refine iteT ?_
      exact ⟨_, rfl, h, dx, _, rfl, eo, fH_no l (by decide +kernel), _, rfl, c, _, _, .int ji, rfl, rfl, hS, at0 1 ji rfl, h, l, as, ts, items, ji, rfl, X, st, k⟩
    | range i _ hi =>
      obtain ⟨ji, rfl⟩ : ∃ j : Nat, i = j := ⟨i.toNat, by omega⟩
      rw [Int.toNat_natCast] at k
      refine ⟨_, rfl, c, _, _, .int 6, rfl, rfl, hS, at0 0 6 rfl, _, rfl, rfl, _, rfl, ?_⟩
      rw [decI, decide_eq_false (by omega)]
      refine iteF ⟨_, rfl, rfl, _, rfl, ?_⟩
      rw [decI, decide_eq_false (by omega)]
      refine iteF ⟨_, rfl, rfl, _, rfl, ?_⟩
      rw [decI, decide_eq_false (by omega)]
      refine iteF ⟨_, rfl, rfl, _, rfl, ?_⟩
      rw [decI, decide_eq_false (by omega)]
      refine iteF ⟨_, rfl, rfl, _, rfl, ?_⟩
      rw [decI, decide_eq_false (by omega)]
      refine iteF ⟨_, rfl, rfl, _, rfl, ?_⟩
      rw [decI, decide_eq_false (by omega)]
      refine iteF ⟨_, rfl, rfl, _, rfl, ?_⟩
      rw [decI, decide_eq_true rfl]
      refine iteT ?_
      exact ⟨_, rfl, h, dx, _, rfl, eo, fH_no l (by decide +kernel), _, rfl, c, _, _, .int ji, rfl, rfl, hS, at0 1 ji rfl, h, l, as, ts, items, ji, rfl, X, st, k⟩
    | digits i p _ hi hp =>
      obtain ⟨ji, rfl⟩ : ∃ j : Nat, i = j := ⟨i.toNat, by omega⟩
      rw [Int.toNat_natCast] at k
      obtain ⟨jp, rfl⟩ : ∃ j : Nat, p = j := ⟨p.toNat, by omega⟩
      rw [Int.toNat_natCast] at k
      refine ⟨_, rfl, c, _, _, .int 7, rfl, rfl, hS, at0 0 7 rfl, _, rfl, rfl, _, rfl, ?_⟩
      rw [decI, decide_eq_false (by omega)]
      refine iteF ⟨_, rfl, rfl, _, rfl, ?_⟩
      rw [decI, decide_eq_false (by omega)]
      refine iteF ⟨_, rfl, rfl, _, rfl, ?_⟩
      rw [decI, decide_eq_false (by omega)]
      refine iteF ⟨_, rfl, rfl, _, rfl, ?_⟩
      rw [decI, decide_eq_false (by omega)]
      refine iteF ⟨_, rfl, rfl, _, rfl, ?_⟩
      rw [decI, decide_eq_false (by omega)]
      refine iteF ⟨_, rfl, rfl, _, rfl, ?_⟩
      rw [decI, decide_eq_false (by omega)]
      refine iteF ⟨_, rfl, rfl, _, rfl, ?_⟩
      rw [decI, decide_eq_false (by omega)]
      refine iteF ⟨_, rfl, rfl, _, rfl, ?_⟩
      rw [decI, decide_eq_true rfl]
      refine iteT ?_
      exact ⟨_, rfl, h, dx, _, rfl, eo, fH_no l (by decide +kernel), _, rfl, c, _, _, .int ji, rfl, rfl, hS, at0 1 ji rfl, _, rfl, c, _, _, .int jp, rfl, rfl, hS, at0 2 jp rfl, h, l, as, ts, items, ji, jp, rfl, X, st, k⟩
    | may i n d _ hi hd hn hd' =>
      obtain ⟨ji, rfl⟩ : ∃ j : Nat, i = j := ⟨i.toNat, by omega⟩
      rw [Int.toNat_natCast] at k
      obtain ⟨jd, rfl⟩ : ∃ j : Nat, d = j := ⟨d.toNat, by omega⟩
      rw [Int.toNat_natCast] at k
      refine ⟨_, rfl, c, _, _, .int 8, rfl, rfl, hS, at0 0 8 rfl, _, rfl, rfl, _, rfl, ?_⟩
      rw [decI, decide_eq_false (by omega)]
      refine iteF ⟨_, rfl, rfl, _, rfl, ?_⟩
      rw [decI, decide_eq_false (by omega)]
      refine iteF ⟨_, rfl, rfl, _, rfl, ?_⟩
      rw [decI, decide_eq_false (by omega)]
      refine iteF ⟨_, rfl, rfl, _, rfl, ?_⟩
      rw [decI, decide_eq_false (by omega)]
      refine iteF ⟨_, rfl, rfl, _, rfl, ?_⟩
      rw [decI, decide_eq_false (by omega)]
      refine iteF ⟨_, rfl, rfl, _, rfl, ?_⟩
      rw [decI, decide_eq_false (by omega)]
      refine iteF ⟨_, rfl, rfl, _, rfl, ?_⟩
      rw [decI, decide_eq_false (by omega)]
      refine iteF ⟨_, rfl, rfl, _, rfl, ?_⟩
      rw [decI, decide_eq_false (by omega)]
      refine iteF ?_
      exact ⟨_, rfl, h, dx, _, rfl, eo, fH_no l (by decide +kernel), _, rfl, c, _, _, .int ji, rfl, rfl, hS, at0 1 ji rfl, _, rfl, c, _, _, .int n, rfl, rfl, hS, at0 2 n rfl, _, rfl, c, _, _, .int jd, rfl, rfl, hS, at0 3 jd rfl, h, l, as, ts, items, ji, n, jd, rfl, X, st, hn, by omega, k⟩
theorem all_mk {P : Program} {w : World} {K : PySem.W.Frag} {h : Heap} {mg : Str → Option Value} {fa : Addr} (X : K.In h) (G : h.Ns mainGlobals mg) (hfa : mg "answers" = some (.ref fa)) (hT : P.given.tree = none)
    {C_End : Addr}
    {C_Span : Addr}
    {C_Stream : Addr}
    {C_Node : Addr}
    {C_House : Addr}
    {f1 : Addr} {od1 an1 : Option Addr} {sl1 : Array (Option Value)} {oc1 kV1 dc1 pm1 cd1 ct1 : Value}
    {f2 : Addr} {od2 an2 : Option Addr} {sl2 : Array (Option Value)} {oc2 kV2 dc2 pm2 cd2 ct2 : Value}
    {f3 : Addr} {od3 an3 : Option Addr} {sl3 : Array (Option Value)} {oc3 kV3 dc3 pm3 cd3 ct3 : Value}
    {f4 : Addr} {od4 an4 : Option Addr} {sl4 : Array (Option Value)} {oc4 kV4 dc4 pm4 cd4 ct4 : Value}
    {f5 : Addr} {od5 an5 : Option Addr} {sl5 : Array (Option Value)} {oc5 kV5 dc5 pm5 cd5 ct5 : Value}
    {f6 : Addr} {od6 an6 : Option Addr} {sl6 : Array (Option Value)} {oc6 kV6 dc6 pm6 cd6 ct6 : Value}
    {f7 : Addr} {od7 an7 : Option Addr} {sl7 : Array (Option Value)} {oc7 kV7 dc7 pm7 cd7 ct7 : Value}
    {f8 : Addr} {od8 an8 : Option Addr} {sl8 : Array (Option Value)} {oc8 kV8 dc8 pm8 cd8 ct8 : Value}
    {f9 : Addr} {od9 an9 : Option Addr} {sl9 : Array (Option Value)} {oc9 kV9 dc9 pm9 cd9 ct9 : Value}
    {f10 : Addr} {od10 an10 : Option Addr} {sl10 : Array (Option Value)} {oc10 kV10 dc10 pm10 cd10 ct10 : Value}
    {f11 : Addr} {od11 an11 : Option Addr} {sl11 : Array (Option Value)} {oc11 kV11 dc11 pm11 cd11 ct11 : Value}
    {f12 : Addr} {od12 an12 : Option Addr} {sl12 : Array (Option Value)} {oc12 kV12 dc12 pm12 cd12 ct12 : Value}
    {f13 : Addr} {od13 an13 : Option Addr} {sl13 : Array (Option Value)} {oc13 kV13 dc13 pm13 cd13 ct13 : Value}
    {f14 : Addr} {od14 an14 : Option Addr} {sl14 : Array (Option Value)} {oc14 kV14 dc14 pm14 cd14 ct14 : Value}
    {f15 : Addr} {od15 an15 : Option Addr} {sl15 : Array (Option Value)} {oc15 kV15 dc15 pm15 cd15 ct15 : Value}
    {f16 : Addr} {od16 an16 : Option Addr} {sl16 : Array (Option Value)} {oc16 kV16 dc16 pm16 cd16 ct16 : Value}
    {f17 : Addr} {od17 an17 : Option Addr} {sl17 : Array (Option Value)} {oc17 kV17 dc17 pm17 cd17 ct17 : Value}
    {f18 : Addr} {od18 an18 : Option Addr} {sl18 : Array (Option Value)} {oc18 kV18 dc18 pm18 cd18 ct18 : Value}
    {f19 : Addr} {od19 an19 : Option Addr} {sl19 : Array (Option Value)} {oc19 kV19 dc19 pm19 cd19 ct19 : Value}
    {f20 : Addr} {od20 an20 : Option Addr} {sl20 : Array (Option Value)} {oc20 kV20 dc20 pm20 cd20 ct20 : Value}
    {f21 : Addr} {od21 an21 : Option Addr} {sl21 : Array (Option Value)} {oc21 kV21 dc21 pm21 cd21 ct21 : Value}
    {f22 : Addr} {od22 an22 : Option Addr} {sl22 : Array (Option Value)} {oc22 kV22 dc22 pm22 cd22 ct22 : Value}
    {f23 : Addr} {od23 an23 : Option Addr} {sl23 : Array (Option Value)} {oc23 kV23 dc23 pm23 cd23 ct23 : Value}
    {f24 : Addr} {od24 an24 : Option Addr} {sl24 : Array (Option Value)} {oc24 kV24 dc24 pm24 cd24 ct24 : Value}
    {f25 : Addr} {od25 an25 : Option Addr} {sl25 : Array (Option Value)} {oc25 kV25 dc25 pm25 cd25 ct25 : Value}
    {f26 : Addr} {od26 an26 : Option Addr} {sl26 : Array (Option Value)} {oc26 kV26 dc26 pm26 cd26 ct26 : Value}
    {f27 : Addr} {od27 an27 : Option Addr} {sl27 : Array (Option Value)} {oc27 kV27 dc27 pm27 cd27 ct27 : Value}
    {f28 : Addr} {od28 an28 : Option Addr} {sl28 : Array (Option Value)} {oc28 kV28 dc28 pm28 cd28 ct28 : Value}
    {f29 : Addr} {od29 an29 : Option Addr} {sl29 : Array (Option Value)} {oc29 kV29 dc29 pm29 cd29 ct29 : Value}
    {f30 : Addr} {od30 an30 : Option Addr} {sl30 : Array (Option Value)} {oc30 kV30 dc30 pm30 cd30 ct30 : Value}
    {f31 : Addr} {od31 an31 : Option Addr} {sl31 : Array (Option Value)} {oc31 kV31 dc31 pm31 cd31 ct31 : Value}
    {f32 : Addr} {od32 an32 : Option Addr} {sl32 : Array (Option Value)} {oc32 kV32 dc32 pm32 cd32 ct32 : Value}
    {f33 : Addr} {od33 an33 : Option Addr} {sl33 : Array (Option Value)} {oc33 kV33 dc33 pm33 cd33 ct33 : Value}
    {f34 : Addr} {od34 an34 : Option Addr} {sl34 : Array (Option Value)} {oc34 kV34 dc34 pm34 cd34 ct34 : Value}
    {f35 : Addr} {od35 an35 : Option Addr} {sl35 : Array (Option Value)} {oc35 kV35 dc35 pm35 cd35 ct35 : Value}
    {f36 : Addr} {od36 an36 : Option Addr} {sl36 : Array (Option Value)} {oc36 kV36 dc36 pm36 cd36 ct36 : Value}
    {f37 : Addr} {od37 an37 : Option Addr} {sl37 : Array (Option Value)} {oc37 kV37 dc37 pm37 cd37 ct37 : Value}
    {f38 : Addr} {od38 an38 : Option Addr} {sl38 : Array (Option Value)} {oc38 kV38 dc38 pm38 cd38 ct38 : Value}
    {f39 : Addr} {od39 an39 : Option Addr} {sl39 : Array (Option Value)} {oc39 kV39 dc39 pm39 cd39 ct39 : Value}
    {f40 : Addr} {od40 an40 : Option Addr} {sl40 : Array (Option Value)} {oc40 kV40 dc40 pm40 cd40 ct40 : Value}
    {f41 : Addr} {od41 an41 : Option Addr} {sl41 : Array (Option Value)} {oc41 kV41 dc41 pm41 cd41 ct41 : Value}
    {f42 : Addr} {od42 an42 : Option Addr} {sl42 : Array (Option Value)} {oc42 kV42 dc42 pm42 cd42 ct42 : Value}
    {f43 : Addr} {od43 an43 : Option Addr} {sl43 : Array (Option Value)} {oc43 kV43 dc43 pm43 cd43 ct43 : Value}
    {f44 : Addr} {od44 an44 : Option Addr} {sl44 : Array (Option Value)} {oc44 kV44 dc44 pm44 cd44 ct44 : Value}
    {f45 : Addr} {od45 an45 : Option Addr} {sl45 : Array (Option Value)} {oc45 kV45 dc45 pm45 cd45 ct45 : Value}
    {f46 : Addr} {od46 an46 : Option Addr} {sl46 : Array (Option Value)} {oc46 kV46 dc46 pm46 cd46 ct46 : Value}
    {f47 : Addr} {od47 an47 : Option Addr} {sl47 : Array (Option Value)} {oc47 kV47 dc47 pm47 cd47 ct47 : Value}
    {f48 : Addr} {od48 an48 : Option Addr} {sl48 : Array (Option Value)} {oc48 kV48 dc48 pm48 cd48 ct48 : Value}
    {f49 : Addr} {od49 an49 : Option Addr} {sl49 : Array (Option Value)} {oc49 kV49 dc49 pm49 cd49 ct49 : Value}
    {t_BAD_NUMBER : Tok}
    {t_NO_ITEM : Tok}
    {t_NO_END : Tok}
    {t_NO_MORE : Tok}
    {t_FULL : Tok}
    {t_NOT_KNOWN : Tok}
    {t_MOST_ITEMS : Tok}
    {t_MOST_TERMS : Tok}
    {t_MOST_DIGITS : Tok}
    {t_FACTORS : Tok}
    {t_BOUND : Tok}
    {t_BEGIN : Tok}
    {t_STREAM : Tok}
    {t_FEED : Tok}
    {t_CLOSE : Tok}
    {t_NODE : Tok}
    {t_SURE : Tok}
    {t_RANGE : Tok}
    {t_DIGITS : Tok}
    {tl_LENGTHS : Addr} {td_LENGTHS : Option Addr} {tn_LENGTHS : Nat} {ts_LENGTHS : Array (Option Value)} {u0_LENGTHS u1_LENGTHS u2_LENGTHS u3_LENGTHS u4_LENGTHS u5_LENGTHS u6_LENGTHS u7_LENGTHS u8_LENGTHS : Tok}
    (a_End : PySem.W.nsIn K mainGlobals "End" = some (some (.ref C_End)))
    (a_Span : PySem.W.nsIn K mainGlobals "Span" = some (some (.ref C_Span)))
    (a_Stream : PySem.W.nsIn K mainGlobals "Stream" = some (some (.ref C_Stream)))
    (a_Node : PySem.W.nsIn K mainGlobals "Node" = some (some (.ref C_Node)))
    (a_House : PySem.W.nsIn K mainGlobals "House" = some (some (.ref C_House)))
    (a1 : PySem.W.findIn K (.ref C_End) "__init__" = some (some (.ref f1)))
    (i1 : PySem.W.isFn K (.ref f1) = true)
    (l1 : K.lookup f1 = some ⟨oc1, od1, .func (PySem.W.fnOf "__init__" "End.__init__" (defArgs s_End_init) (defBody s_End_init) (defScope s_End_init) .none kV1 dc1 pm1 an1 cd1 ct1), sl1⟩)
    (c1 : PySem.W.codeIn K cd1 "End.__init__" = true)
    (k1 : PySem.W.keepIn K (.ref f1) = true)
    (a2 : PySem.W.findIn K (.ref C_Span) "__init__" = some (some (.ref f2)))
    (i2 : PySem.W.isFn K (.ref f2) = true)
    (l2 : K.lookup f2 = some ⟨oc2, od2, .func (PySem.W.fnOf "__init__" "Span.__init__" (defArgs s_Span_init) (defBody s_Span_init) (defScope s_Span_init) .none kV2 dc2 pm2 an2 cd2 ct2), sl2⟩)
    (c2 : PySem.W.codeIn K cd2 "Span.__init__" = true)
    (k2 : PySem.W.keepIn K (.ref f2) = true)
    (a3 : PySem.W.nsIn K mainGlobals "compared" = some (some (.ref f3)))
    (l3 : K.lookup f3 = some ⟨oc3, od3, .func (PySem.W.fnOf "compared" "compared" (defArgs s_compared) (defBody s_compared) (defScope s_compared) .none kV3 dc3 pm3 an3 cd3 ct3), sl3⟩)
    (c3 : PySem.W.codeIn K cd3 "compared" = true)
    (k3 : PySem.W.keepIn K (.ref f3) = true)
    (a4 : PySem.W.nsIn K mainGlobals "is_alone" = some (some (.ref f4)))
    (l4 : K.lookup f4 = some ⟨oc4, od4, .func (PySem.W.fnOf "is_alone" "is_alone" (defArgs s_is_alone) (defBody s_is_alone) (defScope s_is_alone) .none kV4 dc4 pm4 an4 cd4 ct4), sl4⟩)
    (c4 : PySem.W.codeIn K cd4 "is_alone" = true)
    (k4 : PySem.W.keepIn K (.ref f4) = true)
    (a5 : PySem.W.nsIn K mainGlobals "whole_part_of_least" = some (some (.ref f5)))
    (l5 : K.lookup f5 = some ⟨oc5, od5, .func (PySem.W.fnOf "whole_part_of_least" "whole_part_of_least" (defArgs s_whole_part_of_least) (defBody s_whole_part_of_least) (defScope s_whole_part_of_least) .none kV5 dc5 pm5 an5 cd5 ct5), sl5⟩)
    (c5 : PySem.W.codeIn K cd5 "whole_part_of_least" = true)
    (k5 : PySem.W.keepIn K (.ref f5) = true)
    (a6 : PySem.W.nsIn K mainGlobals "whole_part_of_greatest" = some (some (.ref f6)))
    (l6 : K.lookup f6 = some ⟨oc6, od6, .func (PySem.W.fnOf "whole_part_of_greatest" "whole_part_of_greatest" (defArgs s_whole_part_of_greatest) (defBody s_whole_part_of_greatest) (defScope s_whole_part_of_greatest) .none kV6 dc6 pm6 an6 cd6 ct6), sl6⟩)
    (c6 : PySem.W.codeIn K cd6 "whole_part_of_greatest" = true)
    (k6 : PySem.W.keepIn K (.ref f6) = true)
    (a7 : PySem.W.nsIn K mainGlobals "shared_whole_part" = some (some (.ref f7)))
    (l7 : K.lookup f7 = some ⟨oc7, od7, .func (PySem.W.fnOf "shared_whole_part" "shared_whole_part" (defArgs s_shared_whole_part) (defBody s_shared_whole_part) (defScope s_shared_whole_part) .none kV7 dc7 pm7 an7 cd7 ct7), sl7⟩)
    (c7 : PySem.W.codeIn K cd7 "shared_whole_part" = true)
    (k7 : PySem.W.keepIn K (.ref f7) = true)
    (a8 : PySem.W.nsIn K mainGlobals "lies_within" = some (some (.ref f8)))
    (l8 : K.lookup f8 = some ⟨oc8, od8, .func (PySem.W.fnOf "lies_within" "lies_within" (defArgs s_lies_within) (defBody s_lies_within) (defScope s_lies_within) .none kV8 dc8 pm8 an8 cd8 ct8), sl8⟩)
    (c8 : PySem.W.codeIn K cd8 "lies_within" = true)
    (k8 : PySem.W.keepIn K (.ref f8) = true)
    (a9 : PySem.W.nsIn K mainGlobals "turned" = some (some (.ref f9)))
    (l9 : K.lookup f9 = some ⟨oc9, od9, .func (PySem.W.fnOf "turned" "turned" (defArgs s_turned) (defBody s_turned) (defScope s_turned) .none kV9 dc9 pm9 an9 cd9 ct9), sl9⟩)
    (c9 : PySem.W.codeIn K cd9 "turned" = true)
    (k9 : PySem.W.keepIn K (.ref f9) = true)
    (a10 : PySem.W.nsIn K mainGlobals "terms_of_fraction" = some (some (.ref f10)))
    (l10 : K.lookup f10 = some ⟨oc10, od10, .func (PySem.W.fnOf "terms_of_fraction" "terms_of_fraction" (defArgs s_terms_of_fraction) (defBody s_terms_of_fraction) (defScope s_terms_of_fraction) .none kV10 dc10 pm10 an10 cd10 ct10), sl10⟩)
    (c10 : PySem.W.codeIn K cd10 "terms_of_fraction" = true)
    (k10 : PySem.W.keepIn K (.ref f10) = true)
    (a11 : PySem.W.nsIn K mainGlobals "shared_terms" = some (some (.ref f11)))
    (l11 : K.lookup f11 = some ⟨oc11, od11, .func (PySem.W.fnOf "shared_terms" "shared_terms" (defArgs s_shared_terms) (defBody s_shared_terms) (defScope s_shared_terms) .none kV11 dc11 pm11 an11 cd11 ct11), sl11⟩)
    (c11 : PySem.W.codeIn K cd11 "shared_terms" = true)
    (k11 : PySem.W.keepIn K (.ref f11) = true)
    (a12 : PySem.W.nsIn K mainGlobals "greatest_divisor" = some (some (.ref f12)))
    (l12 : K.lookup f12 = some ⟨oc12, od12, .func (PySem.W.fnOf "greatest_divisor" "greatest_divisor" (defArgs s_greatest_divisor) (defBody s_greatest_divisor) (defScope s_greatest_divisor) .none kV12 dc12 pm12 an12 cd12 ct12), sl12⟩)
    (c12 : PySem.W.codeIn K cd12 "greatest_divisor" = true)
    (k12 : PySem.W.keepIn K (.ref f12) = true)
    (a13 : PySem.W.nsIn K mainGlobals "told_end" = some (some (.ref f13)))
    (l13 : K.lookup f13 = some ⟨oc13, od13, .func (PySem.W.fnOf "told_end" "told_end" (defArgs s_told_end) (defBody s_told_end) (defScope s_told_end) .none kV13 dc13 pm13 an13 cd13 ct13), sl13⟩)
    (c13 : PySem.W.codeIn K cd13 "told_end" = true)
    (k13 : PySem.W.keepIn K (.ref f13) = true)
    (a14 : PySem.W.findIn K (.ref C_Stream) "__init__" = some (some (.ref f14)))
    (i14 : PySem.W.isFn K (.ref f14) = true)
    (l14 : K.lookup f14 = some ⟨oc14, od14, .func (PySem.W.fnOf "__init__" "Stream.__init__" (defArgs s_Stream_init) (defBody s_Stream_init) (defScope s_Stream_init) .none kV14 dc14 pm14 an14 cd14 ct14), sl14⟩)
    (c14 : PySem.W.codeIn K cd14 "Stream.__init__" = true)
    (k14 : PySem.W.keepIn K (.ref f14) = true)
    (a15 : PySem.W.nsIn K mainGlobals "can_end" = some (some (.ref f15)))
    (l15 : K.lookup f15 = some ⟨oc15, od15, .func (PySem.W.fnOf "can_end" "can_end" (defArgs s_can_end) (defBody s_can_end) (defScope s_can_end) .none kV15 dc15 pm15 an15 cd15 ct15), sl15⟩)
    (c15 : PySem.W.codeIn K cd15 "can_end" = true)
    (k15 : PySem.W.keepIn K (.ref f15) = true)
    (a16 : PySem.W.nsIn K mainGlobals "end_behind" = some (some (.ref f16)))
    (l16 : K.lookup f16 = some ⟨oc16, od16, .func (PySem.W.fnOf "end_behind" "end_behind" (defArgs s_end_behind) (defBody s_end_behind) (defScope s_end_behind) .none kV16 dc16 pm16 an16 cd16 ct16), sl16⟩)
    (c16 : PySem.W.codeIn K cd16 "end_behind" = true)
    (k16 : PySem.W.keepIn K (.ref f16) = true)
    (a17 : PySem.W.nsIn K mainGlobals "stream_span" = some (some (.ref f17)))
    (l17 : K.lookup f17 = some ⟨oc17, od17, .func (PySem.W.fnOf "stream_span" "stream_span" (defArgs s_stream_span) (defBody s_stream_span) (defScope s_stream_span) .none kV17 dc17 pm17 an17 cd17 ct17), sl17⟩)
    (c17 : PySem.W.codeIn K cd17 "stream_span" = true)
    (k17 : PySem.W.keepIn K (.ref f17) = true)
    (a18 : PySem.W.nsIn K mainGlobals "sure_stream" = some (some (.ref f18)))
    (l18 : K.lookup f18 = some ⟨oc18, od18, .func (PySem.W.fnOf "sure_stream" "sure_stream" (defArgs s_sure_stream) (defBody s_sure_stream) (defScope s_sure_stream) .none kV18 dc18 pm18 an18 cd18 ct18), sl18⟩)
    (c18 : PySem.W.codeIn K cd18 "sure_stream" = true)
    (k18 : PySem.W.keepIn K (.ref f18) = true)
    (a19 : PySem.W.findIn K (.ref C_Node) "__init__" = some (some (.ref f19)))
    (i19 : PySem.W.isFn K (.ref f19) = true)
    (l19 : K.lookup f19 = some ⟨oc19, od19, .func (PySem.W.fnOf "__init__" "Node.__init__" (defArgs s_Node_init) (defBody s_Node_init) (defScope s_Node_init) .none kV19 dc19 pm19 an19 cd19 ct19), sl19⟩)
    (c19 : PySem.W.codeIn K cd19 "Node.__init__" = true)
    (k19 : PySem.W.keepIn K (.ref f19) = true)
    (a20 : PySem.W.nsIn K mainGlobals "corner_pairs" = some (some (.ref f20)))
    (l20 : K.lookup f20 = some ⟨oc20, od20, .func (PySem.W.fnOf "corner_pairs" "corner_pairs" (defArgs s_corner_pairs) (defBody s_corner_pairs) (defScope s_corner_pairs) .none kV20 dc20 pm20 an20 cd20 ct20), sl20⟩)
    (c20 : PySem.W.codeIn K cd20 "corner_pairs" = true)
    (k20 : PySem.W.keepIn K (.ref f20) = true)
    (a21 : PySem.W.nsIn K mainGlobals "part_value" = some (some (.ref f21)))
    (l21 : K.lookup f21 = some ⟨oc21, od21, .func (PySem.W.fnOf "part_value" "part_value" (defArgs s_part_value) (defBody s_part_value) (defScope s_part_value) .none kV21 dc21 pm21 an21 cd21 ct21), sl21⟩)
    (c21 : PySem.W.codeIn K cd21 "part_value" = true)
    (k21 : PySem.W.keepIn K (.ref f21) = true)
    (a22 : PySem.W.nsIn K mainGlobals "corner_values" = some (some (.ref f22)))
    (l22 : K.lookup f22 = some ⟨oc22, od22, .func (PySem.W.fnOf "corner_values" "corner_values" (defArgs s_corner_values) (defBody s_corner_values) (defScope s_corner_values) .none kV22 dc22 pm22 an22 cd22 ct22), sl22⟩)
    (c22 : PySem.W.codeIn K cd22 "corner_values" = true)
    (k22 : PySem.W.keepIn K (.ref f22) = true)
    (a23 : PySem.W.nsIn K mainGlobals "had_along" = some (some (.ref f23)))
    (l23 : K.lookup f23 = some ⟨oc23, od23, .func (PySem.W.fnOf "had_along" "had_along" (defArgs s_had_along) (defBody s_had_along) (defScope s_had_along) .none kV23 dc23 pm23 an23 cd23 ct23), sl23⟩)
    (c23 : PySem.W.codeIn K cd23 "had_along" = true)
    (k23 : PySem.W.keepIn K (.ref f23) = true)
    (a24 : PySem.W.nsIn K mainGlobals "may_be_had" = some (some (.ref f24)))
    (l24 : K.lookup f24 = some ⟨oc24, od24, .func (PySem.W.fnOf "may_be_had" "may_be_had" (defArgs s_may_be_had) (defBody s_may_be_had) (defScope s_may_be_had) .none kV24 dc24 pm24 an24 cd24 ct24), sl24⟩)
    (c24 : PySem.W.codeIn K cd24 "may_be_had" = true)
    (k24 : PySem.W.keepIn K (.ref f24) = true)
    (a25 : PySem.W.nsIn K mainGlobals "node_end" = some (some (.ref f25)))
    (l25 : K.lookup f25 = some ⟨oc25, od25, .func (PySem.W.fnOf "node_end" "node_end" (defArgs s_node_end) (defBody s_node_end) (defScope s_node_end) .none kV25 dc25 pm25 an25 cd25 ct25), sl25⟩)
    (c25 : PySem.W.codeIn K cd25 "node_end" = true)
    (k25 : PySem.W.keepIn K (.ref f25) = true)
    (a26 : PySem.W.nsIn K mainGlobals "node_span" = some (some (.ref f26)))
    (l26 : K.lookup f26 = some ⟨oc26, od26, .func (PySem.W.fnOf "node_span" "node_span" (defArgs s_node_span) (defBody s_node_span) (defScope s_node_span) .none kV26 dc26 pm26 an26 cd26 ct26), sl26⟩)
    (c26 : PySem.W.codeIn K cd26 "node_span" = true)
    (k26 : PySem.W.keepIn K (.ref f26) = true)
    (a27 : PySem.W.nsIn K mainGlobals "entry_span" = some (some (.ref f27)))
    (l27 : K.lookup f27 = some ⟨oc27, od27, .func (PySem.W.fnOf "entry_span" "entry_span" (defArgs s_entry_span) (defBody s_entry_span) (defScope s_entry_span) .none kV27 dc27 pm27 an27 cd27 ct27), sl27⟩)
    (c27 : PySem.W.codeIn K cd27 "entry_span" = true)
    (k27 : PySem.W.keepIn K (.ref f27) = true)
    (a28 : PySem.W.nsIn K mainGlobals "item_span" = some (some (.ref f28)))
    (l28 : K.lookup f28 = some ⟨oc28, od28, .func (PySem.W.fnOf "item_span" "item_span" (defArgs s_item_span) (defBody s_item_span) (defScope s_item_span) .none kV28 dc28 pm28 an28 cd28 ct28), sl28⟩)
    (c28 : PySem.W.codeIn K cd28 "item_span" = true)
    (k28 : PySem.W.keepIn K (.ref f28) = true)
    (a29 : PySem.W.nsIn K mainGlobals "in_bounds" = some (some (.ref f29)))
    (l29 : K.lookup f29 = some ⟨oc29, od29, .func (PySem.W.fnOf "in_bounds" "in_bounds" (defArgs s_in_bounds) (defBody s_in_bounds) (defScope s_in_bounds) .none kV29 dc29 pm29 an29 cd29 ct29), sl29⟩)
    (c29 : PySem.W.codeIn K cd29 "in_bounds" = true)
    (k29 : PySem.W.keepIn K (.ref f29) = true)
    (a30 : PySem.W.nsIn K mainGlobals "can_follow" = some (some (.ref f30)))
    (l30 : K.lookup f30 = some ⟨oc30, od30, .func (PySem.W.fnOf "can_follow" "can_follow" (defArgs s_can_follow) (defBody s_can_follow) (defScope s_can_follow) .none kV30 dc30 pm30 an30 cd30 ct30), sl30⟩)
    (c30 : PySem.W.codeIn K cd30 "can_follow" = true)
    (k30 : PySem.W.keepIn K (.ref f30) = true)
    (a31 : PySem.W.nsIn K mainGlobals "are_factors" = some (some (.ref f31)))
    (l31 : K.lookup f31 = some ⟨oc31, od31, .func (PySem.W.fnOf "are_factors" "are_factors" (defArgs s_are_factors) (defBody s_are_factors) (defScope s_are_factors) .none kV31 dc31 pm31 an31 cd31 ct31), sl31⟩)
    (c31 : PySem.W.codeIn K cd31 "are_factors" = true)
    (k31 : PySem.W.keepIn K (.ref f31) = true)
    (a32 : PySem.W.nsIn K mainGlobals "ten_times" = some (some (.ref f32)))
    (l32 : K.lookup f32 = some ⟨oc32, od32, .func (PySem.W.fnOf "ten_times" "ten_times" (defArgs s_ten_times) (defBody s_ten_times) (defScope s_ten_times) .none kV32 dc32 pm32 an32 cd32 ct32), sl32⟩)
    (c32 : PySem.W.codeIn K cd32 "ten_times" = true)
    (k32 : PySem.W.keepIn K (.ref f32) = true)
    (a33 : PySem.W.findIn K (.ref C_House) "__init__" = some (some (.ref f33)))
    (i33 : PySem.W.isFn K (.ref f33) = true)
    (l33 : K.lookup f33 = some ⟨oc33, od33, .func (PySem.W.fnOf "__init__" "House.__init__" (defArgs s_House_init) (defBody s_House_init) (defScope s_House_init) .none kV33 dc33 pm33 an33 cd33 ct33), sl33⟩)
    (c33 : PySem.W.codeIn K cd33 "House.__init__" = true)
    (k33 : PySem.W.keepIn K (.ref f33) = true)
    (a34 : PySem.W.findIn K (.ref C_House) "has_item" = some (some (.ref f34)))
    (i34 : PySem.W.isFn K (.ref f34) = true)
    (l34 : K.lookup f34 = some ⟨oc34, od34, .func (PySem.W.fnOf "has_item" "House.has_item" (defArgs s_House_has_item) (defBody s_House_has_item) (defScope s_House_has_item) .none kV34 dc34 pm34 an34 cd34 ct34), sl34⟩)
    (c34 : PySem.W.codeIn K cd34 "House.has_item" = true)
    (k34 : PySem.W.keepIn K (.ref f34) = true)
    (a35 : PySem.W.findIn K (.ref C_House) "is_full" = some (some (.ref f35)))
    (i35 : PySem.W.isFn K (.ref f35) = true)
    (l35 : K.lookup f35 = some ⟨oc35, od35, .func (PySem.W.fnOf "is_full" "House.is_full" (defArgs s_House_is_full) (defBody s_House_is_full) (defScope s_House_is_full) .none kV35 dc35 pm35 an35 cd35 ct35), sl35⟩)
    (c35 : PySem.W.codeIn K cd35 "House.is_full" = true)
    (k35 : PySem.W.keepIn K (.ref f35) = true)
    (a36 : PySem.W.findIn K (.ref C_House) "find_stream" = some (some (.ref f36)))
    (i36 : PySem.W.isFn K (.ref f36) = true)
    (l36 : K.lookup f36 = some ⟨oc36, od36, .func (PySem.W.fnOf "find_stream" "House.find_stream" (defArgs s_House_find_stream) (defBody s_House_find_stream) (defScope s_House_find_stream) .none kV36 dc36 pm36 an36 cd36 ct36), sl36⟩)
    (c36 : PySem.W.codeIn K cd36 "House.find_stream" = true)
    (k36 : PySem.W.keepIn K (.ref f36) = true)
    (a37 : PySem.W.findIn K (.ref C_House) "put" = some (some (.ref f37)))
    (i37 : PySem.W.isFn K (.ref f37) = true)
    (l37 : K.lookup f37 = some ⟨oc37, od37, .func (PySem.W.fnOf "put" "House.put" (defArgs s_House_put) (defBody s_House_put) (defScope s_House_put) .none kV37 dc37 pm37 an37 cd37 ct37), sl37⟩)
    (c37 : PySem.W.codeIn K cd37 "House.put" = true)
    (k37 : PySem.W.keepIn K (.ref f37) = true)
    (a38 : PySem.W.findIn K (.ref C_House) "begin" = some (some (.ref f38)))
    (i38 : PySem.W.isFn K (.ref f38) = true)
    (l38 : K.lookup f38 = some ⟨oc38, od38, .func (PySem.W.fnOf "begin" "House.begin" (defArgs s_House_begin) (defBody s_House_begin) (defScope s_House_begin) .none kV38 dc38 pm38 an38 cd38 ct38), sl38⟩)
    (c38 : PySem.W.codeIn K cd38 "House.begin" = true)
    (k38 : PySem.W.keepIn K (.ref f38) = true)
    (a39 : PySem.W.findIn K (.ref C_House) "stream" = some (some (.ref f39)))
    (i39 : PySem.W.isFn K (.ref f39) = true)
    (l39 : K.lookup f39 = some ⟨oc39, od39, .func (PySem.W.fnOf "stream" "House.stream" (defArgs s_House_stream) (defBody s_House_stream) (defScope s_House_stream) .none kV39 dc39 pm39 an39 cd39 ct39), sl39⟩)
    (c39 : PySem.W.codeIn K cd39 "House.stream" = true)
    (k39 : PySem.W.keepIn K (.ref f39) = true)
    (a40 : PySem.W.findIn K (.ref C_House) "feed" = some (some (.ref f40)))
    (i40 : PySem.W.isFn K (.ref f40) = true)
    (l40 : K.lookup f40 = some ⟨oc40, od40, .func (PySem.W.fnOf "feed" "House.feed" (defArgs s_House_feed) (defBody s_House_feed) (defScope s_House_feed) .none kV40 dc40 pm40 an40 cd40 ct40), sl40⟩)
    (c40 : PySem.W.codeIn K cd40 "House.feed" = true)
    (k40 : PySem.W.keepIn K (.ref f40) = true)
    (a41 : PySem.W.findIn K (.ref C_House) "close" = some (some (.ref f41)))
    (i41 : PySem.W.isFn K (.ref f41) = true)
    (l41 : K.lookup f41 = some ⟨oc41, od41, .func (PySem.W.fnOf "close" "House.close" (defArgs s_House_close) (defBody s_House_close) (defScope s_House_close) .none kV41 dc41 pm41 an41 cd41 ct41), sl41⟩)
    (c41 : PySem.W.codeIn K cd41 "House.close" = true)
    (k41 : PySem.W.keepIn K (.ref f41) = true)
    (a42 : PySem.W.findIn K (.ref C_House) "node" = some (some (.ref f42)))
    (i42 : PySem.W.isFn K (.ref f42) = true)
    (l42 : K.lookup f42 = some ⟨oc42, od42, .func (PySem.W.fnOf "node" "House.node" (defArgs s_House_node) (defBody s_House_node) (defScope s_House_node) .none kV42 dc42 pm42 an42 cd42 ct42), sl42⟩)
    (c42 : PySem.W.codeIn K cd42 "House.node" = true)
    (k42 : PySem.W.keepIn K (.ref f42) = true)
    (a43 : PySem.W.findIn K (.ref C_House) "sure" = some (some (.ref f43)))
    (i43 : PySem.W.isFn K (.ref f43) = true)
    (l43 : K.lookup f43 = some ⟨oc43, od43, .func (PySem.W.fnOf "sure" "House.sure" (defArgs s_House_sure) (defBody s_House_sure) (defScope s_House_sure) .none kV43 dc43 pm43 an43 cd43 ct43), sl43⟩)
    (c43 : PySem.W.codeIn K cd43 "House.sure" = true)
    (k43 : PySem.W.keepIn K (.ref f43) = true)
    (a44 : PySem.W.findIn K (.ref C_House) "ends" = some (some (.ref f44)))
    (i44 : PySem.W.isFn K (.ref f44) = true)
    (l44 : K.lookup f44 = some ⟨oc44, od44, .func (PySem.W.fnOf "ends" "House.ends" (defArgs s_House_ends) (defBody s_House_ends) (defScope s_House_ends) .none kV44 dc44 pm44 an44 cd44 ct44), sl44⟩)
    (c44 : PySem.W.codeIn K cd44 "House.ends" = true)
    (k44 : PySem.W.keepIn K (.ref f44) = true)
    (a45 : PySem.W.findIn K (.ref C_House) "digits" = some (some (.ref f45)))
    (i45 : PySem.W.isFn K (.ref f45) = true)
    (l45 : K.lookup f45 = some ⟨oc45, od45, .func (PySem.W.fnOf "digits" "House.digits" (defArgs s_House_digits) (defBody s_House_digits) (defScope s_House_digits) .none kV45 dc45 pm45 an45 cd45 ct45), sl45⟩)
    (c45 : PySem.W.codeIn K cd45 "House.digits" = true)
    (k45 : PySem.W.keepIn K (.ref f45) = true)
    (a46 : PySem.W.findIn K (.ref C_House) "may" = some (some (.ref f46)))
    (i46 : PySem.W.isFn K (.ref f46) = true)
    (l46 : K.lookup f46 = some ⟨oc46, od46, .func (PySem.W.fnOf "may" "House.may" (defArgs s_House_may) (defBody s_House_may) (defScope s_House_may) .none kV46 dc46 pm46 an46 cd46 ct46), sl46⟩)
    (c46 : PySem.W.codeIn K cd46 "House.may" = true)
    (k46 : PySem.W.keepIn K (.ref f46) = true)
    (a47 : PySem.W.nsIn K mainGlobals "call_length" = some (some (.ref f47)))
    (l47 : K.lookup f47 = some ⟨oc47, od47, .func (PySem.W.fnOf "call_length" "call_length" (defArgs s_call_length) (defBody s_call_length) (defScope s_call_length) .none kV47 dc47 pm47 an47 cd47 ct47), sl47⟩)
    (c47 : PySem.W.codeIn K cd47 "call_length" = true)
    (k47 : PySem.W.keepIn K (.ref f47) = true)
    (a48 : PySem.W.nsIn K mainGlobals "answer" = some (some (.ref f48)))
    (l48 : K.lookup f48 = some ⟨oc48, od48, .func (PySem.W.fnOf "answer" "answer" (defArgs s_answer) (defBody s_answer) (defScope s_answer) .none kV48 dc48 pm48 an48 cd48 ct48), sl48⟩)
    (c48 : PySem.W.codeIn K cd48 "answer" = true)
    (k48 : PySem.W.keepIn K (.ref f48) = true)
    (a49 : PySem.W.nsIn K mainGlobals "answers" = some (some (.ref f49)))
    (l49 : K.lookup f49 = some ⟨oc49, od49, .func (PySem.W.fnOf "answers" "answers" (defArgs s_answers) (defBody s_answers) (defScope s_answers) .none kV49 dc49 pm49 an49 cd49 ct49), sl49⟩)
    (c49 : PySem.W.codeIn K cd49 "answers" = true)
    (k49 : PySem.W.keepIn K (.ref f49) = true)
    (pg_End : PySem.W.plainGet K C_End Str.empty = true)
    (hd_End : PySem.W.hasDictIn K C_End = true)
    (po_End : PySem.W.plainOver K C_End = true)
    (sa_End : PySem.W.findIn K (.ref C_End) "__setattr__" = some (some (.builtin "object.__setattr__")))
    (mk_End : PySem.W.makesIn K C_End = true)
    (kc_End : PySem.W.keepIn K (.ref C_End) = true)
    (oc_End : PySem.W.findIn K (.ref C_End) "__class__" = some (some (.builtin "object.__class__")))
    (om_End : PySem.W.mroIn K C_End (.type "object") = some true)
    (n_End_above : PySem.W.findIn K (.ref C_End) "above" = some none)
    (n_End_below : PySem.W.findIn K (.ref C_End) "below" = some none)
    (n_End_taken : PySem.W.findIn K (.ref C_End) "taken" = some none)
    (pg_Span : PySem.W.plainGet K C_Span Str.empty = true)
    (hd_Span : PySem.W.hasDictIn K C_Span = true)
    (po_Span : PySem.W.plainOver K C_Span = true)
    (sa_Span : PySem.W.findIn K (.ref C_Span) "__setattr__" = some (some (.builtin "object.__setattr__")))
    (mk_Span : PySem.W.makesIn K C_Span = true)
    (kc_Span : PySem.W.keepIn K (.ref C_Span) = true)
    (oc_Span : PySem.W.findIn K (.ref C_Span) "__class__" = some (some (.builtin "object.__class__")))
    (om_Span : PySem.W.mroIn K C_Span (.type "object") = some true)
    (n_Span_least : PySem.W.findIn K (.ref C_Span) "least" = some none)
    (n_Span_greatest : PySem.W.findIn K (.ref C_Span) "greatest" = some none)
    (pg_Stream : PySem.W.plainGet K C_Stream Str.empty = true)
    (hd_Stream : PySem.W.hasDictIn K C_Stream = true)
    (po_Stream : PySem.W.plainOver K C_Stream = true)
    (sa_Stream : PySem.W.findIn K (.ref C_Stream) "__setattr__" = some (some (.builtin "object.__setattr__")))
    (mk_Stream : PySem.W.makesIn K C_Stream = true)
    (kc_Stream : PySem.W.keepIn K (.ref C_Stream) = true)
    (oc_Stream : PySem.W.findIn K (.ref C_Stream) "__class__" = some (some (.builtin "object.__class__")))
    (om_Stream : PySem.W.mroIn K C_Stream (.type "object") = some true)
    (n_Stream_terms : PySem.W.findIn K (.ref C_Stream) "terms" = some none)
    (n_Stream_ended : PySem.W.findIn K (.ref C_Stream) "ended" = some none)
    (pg_Node : PySem.W.plainGet K C_Node Str.empty = true)
    (hd_Node : PySem.W.hasDictIn K C_Node = true)
    (po_Node : PySem.W.plainOver K C_Node = true)
    (sa_Node : PySem.W.findIn K (.ref C_Node) "__setattr__" = some (some (.builtin "object.__setattr__")))
    (mk_Node : PySem.W.makesIn K C_Node = true)
    (kc_Node : PySem.W.keepIn K (.ref C_Node) = true)
    (oc_Node : PySem.W.findIn K (.ref C_Node) "__class__" = some (some (.builtin "object.__class__")))
    (om_Node : PySem.W.mroIn K C_Node (.type "object") = some true)
    (n_Node_x : PySem.W.findIn K (.ref C_Node) "x" = some none)
    (n_Node_y : PySem.W.findIn K (.ref C_Node) "y" = some none)
    (n_Node_factors : PySem.W.findIn K (.ref C_Node) "factors" = some none)
    (pg_House : PySem.W.plainGet K C_House Str.empty = true)
    (hd_House : PySem.W.hasDictIn K C_House = true)
    (po_House : PySem.W.plainOver K C_House = true)
    (sa_House : PySem.W.findIn K (.ref C_House) "__setattr__" = some (some (.builtin "object.__setattr__")))
    (mk_House : PySem.W.makesIn K C_House = true)
    (kc_House : PySem.W.keepIn K (.ref C_House) = true)
    (oc_House : PySem.W.findIn K (.ref C_House) "__class__" = some (some (.builtin "object.__class__")))
    (om_House : PySem.W.mroIn K C_House (.type "object") = some true)
    (n_House_entries : PySem.W.findIn K (.ref C_House) "entries" = some none)
    (sp : PySem.W.specialIn K (.builtin "object.__class__") "__get__" = some (some (.builtin "getset_descriptor.__get__")))
    (tk : PySem.W.takesIn K (.builtin "object.__class__") = some true)
    (is_End_Node : PySem.W.kitOne K (.ref C_End) (.ref C_Node) = some false)
    (is_Span_Node : PySem.W.kitOne K (.ref C_Span) (.ref C_Node) = some false)
    (is_Stream_Node : PySem.W.kitOne K (.ref C_Stream) (.ref C_Node) = some false)
    (is_Node_Node : PySem.W.kitOne K (.ref C_Node) (.ref C_Node) = some true)
    (is_House_Node : PySem.W.kitOne K (.ref C_House) (.ref C_Node) = some false)
    (is_End_Stream : PySem.W.kitOne K (.ref C_End) (.ref C_Stream) = some false)
    (is_Span_Stream : PySem.W.kitOne K (.ref C_Span) (.ref C_Stream) = some false)
    (is_Stream_Stream : PySem.W.kitOne K (.ref C_Stream) (.ref C_Stream) = some true)
    (is_Node_Stream : PySem.W.kitOne K (.ref C_Node) (.ref C_Stream) = some false)
    (is_House_Stream : PySem.W.kitOne K (.ref C_House) (.ref C_Stream) = some false)
    (v_BAD_NUMBER : PySem.W.nsIn K mainGlobals "BAD_NUMBER" = some (some (.int (-1) t_BAD_NUMBER)))
    (v_NO_ITEM : PySem.W.nsIn K mainGlobals "NO_ITEM" = some (some (.int (-2) t_NO_ITEM)))
    (v_NO_END : PySem.W.nsIn K mainGlobals "NO_END" = some (some (.int (-3) t_NO_END)))
    (v_NO_MORE : PySem.W.nsIn K mainGlobals "NO_MORE" = some (some (.int (-4) t_NO_MORE)))
    (v_FULL : PySem.W.nsIn K mainGlobals "FULL" = some (some (.int (-5) t_FULL)))
    (v_NOT_KNOWN : PySem.W.nsIn K mainGlobals "NOT_KNOWN" = some (some (.int (-7) t_NOT_KNOWN)))
    (v_MOST_ITEMS : PySem.W.nsIn K mainGlobals "MOST_ITEMS" = some (some (.int (8) t_MOST_ITEMS)))
    (v_MOST_TERMS : PySem.W.nsIn K mainGlobals "MOST_TERMS" = some (some (.int (30) t_MOST_TERMS)))
    (v_MOST_DIGITS : PySem.W.nsIn K mainGlobals "MOST_DIGITS" = some (some (.int (30) t_MOST_DIGITS)))
    (v_FACTORS : PySem.W.nsIn K mainGlobals "FACTORS" = some (some (.int (8) t_FACTORS)))
    (v_BOUND : PySem.W.nsIn K mainGlobals "BOUND" = some (some (.int (1000) t_BOUND)))
    (v_BEGIN : PySem.W.nsIn K mainGlobals "BEGIN" = some (some (.int (0) t_BEGIN)))
    (v_STREAM : PySem.W.nsIn K mainGlobals "STREAM" = some (some (.int (1) t_STREAM)))
    (v_FEED : PySem.W.nsIn K mainGlobals "FEED" = some (some (.int (2) t_FEED)))
    (v_CLOSE : PySem.W.nsIn K mainGlobals "CLOSE" = some (some (.int (3) t_CLOSE)))
    (v_NODE : PySem.W.nsIn K mainGlobals "NODE" = some (some (.int (4) t_NODE)))
    (v_SURE : PySem.W.nsIn K mainGlobals "SURE" = some (some (.int (5) t_SURE)))
    (v_RANGE : PySem.W.nsIn K mainGlobals "RANGE" = some (some (.int (6) t_RANGE)))
    (v_DIGITS : PySem.W.nsIn K mainGlobals "DIGITS" = some (some (.int (7) t_DIGITS)))
    (g_LENGTHS : PySem.W.nsIn K mainGlobals "LENGTHS" = some (some (.ref tl_LENGTHS)))
    (w_LENGTHS : K.lookup tl_LENGTHS = some ⟨.type "tuple", td_LENGTHS, .seq #[.int (1) u0_LENGTHS, .int (1) u1_LENGTHS, .int (3) u2_LENGTHS, .int (2) u3_LENGTHS, .int (4) u4_LENGTHS, .int (2) u5_LENGTHS, .int (2) u6_LENGTHS, .int (3) u7_LENGTHS, .int (4) u8_LENGTHS] tn_LENGTHS, ts_LENGTHS⟩)
    (b_abs : PySem.W.nsIn K mainGlobals "abs" = some none)
    (b_all : PySem.W.nsIn K mainGlobals "all" = some none)
    (b_divmod : PySem.W.nsIn K mainGlobals "divmod" = some none)
    (b_isinstance : PySem.W.nsIn K mainGlobals "isinstance" = some none)
    (b_len : PySem.W.nsIn K mainGlobals "len" = some none)
    (b_range : PySem.W.nsIn K mainGlobals "range" = some none)
    (b_reversed : PySem.W.nsIn K mainGlobals "reversed" = some none)
    (b_tuple : PySem.W.nsIn K mainGlobals "tuple" = some none) :
    ∃ fd : FuncData, (∀ (s : Shared) (us : List Value), us.length = (["calls"] : List Str).length → BindsTo s fd ⟨us, []⟩ ((["calls"] : List Str).zip us)) ∧ ∀ base : Heap, K.In base → base.Ns mainGlobals mg → base.NoSeer → FnOk P w K mg base CX0 40 fa fd ["calls"] (spAnswers K) := by
  have F_End_init := fun_mk (st := s_End_init) l1 c1 k1
  have B_End_init := F_End_init.binds (ps := ["self", "above", "below", "taken"]) fun _ _ _ _ _ _ us hl => match us, hl with | [_, _, _, _], _ => rfl
  have F_Span_init := fun_mk (st := s_Span_init) l2 c2 k2
  have B_Span_init := F_Span_init.binds (ps := ["self", "least", "greatest"]) fun _ _ _ _ _ _ us hl => match us, hl with | [_, _, _], _ => rfl
  have F_compared := fun_mk (st := s_compared) l3 c3 k3
  have B_compared := F_compared.binds (ps := ["above", "below", "end"]) fun _ _ _ _ _ _ us hl => match us, hl with | [_, _, _], _ => rfl
  have F_is_alone := fun_mk (st := s_is_alone) l4 c4 k4
  have B_is_alone := F_is_alone.binds (ps := ["span"]) fun _ _ _ _ _ _ us hl => match us, hl with | [_], _ => rfl
  have F_whole_part_of_least := fun_mk (st := s_whole_part_of_least) l5 c5 k5
  have B_whole_part_of_least := F_whole_part_of_least.binds (ps := ["end", "times"]) fun _ _ _ _ _ _ us hl => match us, hl with | [_, _], _ => rfl
  have F_whole_part_of_greatest := fun_mk (st := s_whole_part_of_greatest) l6 c6 k6
  have B_whole_part_of_greatest := F_whole_part_of_greatest.binds (ps := ["end", "times"]) fun _ _ _ _ _ _ us hl => match us, hl with | [_, _], _ => rfl
  have F_shared_whole_part := fun_mk (st := s_shared_whole_part) l7 c7 k7
  have B_shared_whole_part := F_shared_whole_part.binds (ps := ["span", "times"]) fun _ _ _ _ _ _ us hl => match us, hl with | [_, _], _ => rfl
  have F_lies_within := fun_mk (st := s_lies_within) l8 c8 k8
  have B_lies_within := F_lies_within.binds (ps := ["span", "above", "below"]) fun _ _ _ _ _ _ us hl => match us, hl with | [_, _, _], _ => rfl
  have F_turned := fun_mk (st := s_turned) l9 c9 k9
  have B_turned := F_turned.binds (ps := ["end", "part"]) fun _ _ _ _ _ _ us hl => match us, hl with | [_, _], _ => rfl
  have F_terms_of_fraction := fun_mk (st := s_terms_of_fraction) l10 c10 k10
  have B_terms_of_fraction := F_terms_of_fraction.binds (ps := ["above", "below"]) fun _ _ _ _ _ _ us hl => match us, hl with | [_, _], _ => rfl
  have F_shared_terms := fun_mk (st := s_shared_terms) l11 c11 k11
  have B_shared_terms := F_shared_terms.binds (ps := ["span"]) fun _ _ _ _ _ _ us hl => match us, hl with | [_], _ => rfl
  have F_greatest_divisor := fun_mk (st := s_greatest_divisor) l12 c12 k12
  have B_greatest_divisor := F_greatest_divisor.binds (ps := ["first", "second"]) fun _ _ _ _ _ _ us hl => match us, hl with | [_, _], _ => rfl
  have F_told_end := fun_mk (st := s_told_end) l13 c13 k13
  have B_told_end := F_told_end.binds (ps := ["end"]) fun _ _ _ _ _ _ us hl => match us, hl with | [_], _ => rfl
  have F_Stream_init := fun_mk (st := s_Stream_init) l14 c14 k14
  have B_Stream_init := F_Stream_init.binds (ps := ["self", "terms", "ended"]) fun _ _ _ _ _ _ us hl => match us, hl with | [_, _, _], _ => rfl
  have F_can_end := fun_mk (st := s_can_end) l15 c15 k15
  have B_can_end := F_can_end.binds (ps := ["terms"]) fun _ _ _ _ _ _ us hl => match us, hl with | [_], _ => rfl
  have F_end_behind := fun_mk (st := s_end_behind) l16 c16 k16
  have B_end_behind := F_end_behind.binds (ps := ["terms", "last", "taken"]) fun _ _ _ _ _ _ us hl => match us, hl with | [_, _, _], _ => rfl
  have F_stream_span := fun_mk (st := s_stream_span) l17 c17 k17
  have B_stream_span := F_stream_span.binds (ps := ["stream"]) fun _ _ _ _ _ _ us hl => match us, hl with | [_], _ => rfl
  have F_sure_stream := fun_mk (st := s_sure_stream) l18 c18 k18
  have B_sure_stream := F_sure_stream.binds (ps := ["span"]) fun _ _ _ _ _ _ us hl => match us, hl with | [_], _ => rfl
  have F_Node_init := fun_mk (st := s_Node_init) l19 c19 k19
  have B_Node_init := F_Node_init.binds (ps := ["self", "x", "y", "factors"]) fun _ _ _ _ _ _ us hl => match us, hl with | [_, _, _, _], _ => rfl
  have F_corner_pairs := fun_mk (st := s_corner_pairs) l20 c20 k20
  have B_corner_pairs := F_corner_pairs.binds (ps := ["x", "y"]) fun _ _ _ _ _ _ us hl => match us, hl with | [_, _], _ => rfl
  have F_part_value := fun_mk (st := s_part_value) l21 c21 k21
  have B_part_value := F_part_value.binds (ps := ["factors", "pair"]) fun _ _ _ _ _ _ us hl => match us, hl with | [_, _], _ => rfl
  have F_corner_values := fun_mk (st := s_corner_values) l22 c22 k22
  have B_corner_values := F_corner_values.binds (ps := ["factors", "pairs"]) fun _ _ _ _ _ _ us hl => match us, hl with | [_, _], _ => rfl
  have F_had_along := fun_mk (st := s_had_along) l23 c23 k23
  have B_had_along := F_had_along.binds (ps := ["end", "other", "at_least", "at_greatest"]) fun _ _ _ _ _ _ us hl => match us, hl with | [_, _, _, _], _ => rfl
  have F_may_be_had := fun_mk (st := s_may_be_had) l24 c24 k24
  have B_may_be_had := F_may_be_had.binds (ps := ["x", "y", "at"]) fun _ _ _ _ _ _ us hl => match us, hl with | [_, _, _], _ => rfl
  have F_node_end := fun_mk (st := s_node_end) l25 c25 k25
  have B_node_end := F_node_end.binds (ps := ["x", "y", "corners", "end"]) fun _ _ _ _ _ _ us hl => match us, hl with | [_, _, _, _], _ => rfl
  have F_node_span := fun_mk (st := s_node_span) l26 c26 k26
  have B_node_span := F_node_span.binds (ps := ["factors", "x", "y"]) fun _ _ _ _ _ _ us hl => match us, hl with | [_, _, _], _ => rfl
  have F_entry_span := fun_mk (st := s_entry_span) l27 c27 k27
  have B_entry_span := F_entry_span.binds (ps := ["entry", "spans"]) fun _ _ _ _ _ _ us hl => match us, hl with | [_, _], _ => rfl
  have F_item_span := fun_mk (st := s_item_span) l28 c28 k28
  have B_item_span := F_item_span.binds (ps := ["entries", "item"]) fun _ _ _ _ _ _ us hl => match us, hl with | [_, _], _ => rfl
  have F_in_bounds := fun_mk (st := s_in_bounds) l29 c29 k29
  have B_in_bounds := F_in_bounds.binds (ps := ["number"]) fun _ _ _ _ _ _ us hl => match us, hl with | [_], _ => rfl
  have F_can_follow := fun_mk (st := s_can_follow) l30 c30 k30
  have B_can_follow := F_can_follow.binds (ps := ["terms", "term"]) fun _ _ _ _ _ _ us hl => match us, hl with | [_, _], _ => rfl
  have F_are_factors := fun_mk (st := s_are_factors) l31 c31 k31
  have B_are_factors := F_are_factors.binds (ps := ["numbers"]) fun _ _ _ _ _ _ us hl => match us, hl with | [_], _ => rfl
  have F_ten_times := fun_mk (st := s_ten_times) l32 c32 k32
  have B_ten_times := F_ten_times.binds (ps := ["count"]) fun _ _ _ _ _ _ us hl => match us, hl with | [_], _ => rfl
  have F_House_init := fun_mk (st := s_House_init) l33 c33 k33
  have B_House_init := F_House_init.binds (ps := ["self"]) fun _ _ _ _ _ _ us hl => match us, hl with | [_], _ => rfl
  have F_House_has_item := fun_mk (st := s_House_has_item) l34 c34 k34
  have B_House_has_item := F_House_has_item.binds (ps := ["self", "item"]) fun _ _ _ _ _ _ us hl => match us, hl with | [_, _], _ => rfl
  have F_House_is_full := fun_mk (st := s_House_is_full) l35 c35 k35
  have B_House_is_full := F_House_is_full.binds (ps := ["self"]) fun _ _ _ _ _ _ us hl => match us, hl with | [_], _ => rfl
  have F_House_find_stream := fun_mk (st := s_House_find_stream) l36 c36 k36
  have B_House_find_stream := F_House_find_stream.binds (ps := ["self", "item"]) fun _ _ _ _ _ _ us hl => match us, hl with | [_, _], _ => rfl
  have F_House_put := fun_mk (st := s_House_put) l37 c37 k37
  have B_House_put := F_House_put.binds (ps := ["self", "entry"]) fun _ _ _ _ _ _ us hl => match us, hl with | [_, _], _ => rfl
  have F_House_begin := fun_mk (st := s_House_begin) l38 c38 k38
  have B_House_begin := F_House_begin.binds (ps := ["self"]) fun _ _ _ _ _ _ us hl => match us, hl with | [_], _ => rfl
  have F_House_stream := fun_mk (st := s_House_stream) l39 c39 k39
  have B_House_stream := F_House_stream.binds (ps := ["self"]) fun _ _ _ _ _ _ us hl => match us, hl with | [_], _ => rfl
  have F_House_feed := fun_mk (st := s_House_feed) l40 c40 k40
  have B_House_feed := F_House_feed.binds (ps := ["self", "item", "term"]) fun _ _ _ _ _ _ us hl => match us, hl with | [_, _, _], _ => rfl
  have F_House_close := fun_mk (st := s_House_close) l41 c41 k41
  have B_House_close := F_House_close.binds (ps := ["self", "item"]) fun _ _ _ _ _ _ us hl => match us, hl with | [_, _], _ => rfl
  have F_House_node := fun_mk (st := s_House_node) l42 c42 k42
  have B_House_node := F_House_node.binds (ps := ["self", "x", "y", "numbers"]) fun _ _ _ _ _ _ us hl => match us, hl with | [_, _, _, _], _ => rfl
  have F_House_sure := fun_mk (st := s_House_sure) l43 c43 k43
  have B_House_sure := F_House_sure.binds (ps := ["self", "item"]) fun _ _ _ _ _ _ us hl => match us, hl with | [_, _], _ => rfl
  have F_House_ends := fun_mk (st := s_House_ends) l44 c44 k44
  have B_House_ends := F_House_ends.binds (ps := ["self", "item"]) fun _ _ _ _ _ _ us hl => match us, hl with | [_, _], _ => rfl
  have F_House_digits := fun_mk (st := s_House_digits) l45 c45 k45
  have B_House_digits := F_House_digits.binds (ps := ["self", "item", "count"]) fun _ _ _ _ _ _ us hl => match us, hl with | [_, _, _], _ => rfl
  have F_House_may := fun_mk (st := s_House_may) l46 c46 k46
  have B_House_may := F_House_may.binds (ps := ["self", "item", "above", "below"]) fun _ _ _ _ _ _ us hl => match us, hl with | [_, _, _, _], _ => rfl
  have F_call_length := fun_mk (st := s_call_length) l47 c47 k47
  have B_call_length := F_call_length.binds (ps := ["calls", "at"]) fun _ _ _ _ _ _ us hl => match us, hl with | [_, _], _ => rfl
  have F_answer := fun_mk (st := s_answer) l48 c48 k48
  have B_answer := F_answer.binds (ps := ["house", "call"]) fun _ _ _ _ _ _ us hl => match us, hl with | [_, _], _ => rfl
  have F_answers := fun_mk (st := s_answers) l49 c49 k49
  have B_answers := F_answers.binds (ps := ["calls"]) fun _ _ _ _ _ _ us hl => match us, hl with | [_], _ => rfl
  have e := hfa.symm.trans (PySem.W.mg_of X G a49)
  cases e
  have clE : Cls K C_End := ⟨pg_End, hd_End, po_End, sa_End⟩
  have clP : Cls K C_Span := ⟨pg_Span, hd_Span, po_Span, sa_Span⟩
  have clS : Cls K C_Stream := ⟨pg_Stream, hd_Stream, po_Stream, sa_Stream⟩
  have clN : Cls K C_Node := ⟨pg_Node, hd_Node, po_Node, sa_Node⟩
  have clH : Cls K C_House := ⟨pg_House, hd_House, po_House, sa_House⟩
  have T : Txt K mg C_End C_Span C_Stream C_Node C_House := ⟨⟨_, PySem.W.mg_of X G v_BAD_NUMBER⟩, ⟨_, PySem.W.mg_of X G v_NO_ITEM⟩, ⟨_, PySem.W.mg_of X G v_NO_END⟩, ⟨_, PySem.W.mg_of X G v_NO_MORE⟩, ⟨_, PySem.W.mg_of X G v_FULL⟩, ⟨_, PySem.W.mg_of X G v_NOT_KNOWN⟩, ⟨_, PySem.W.mg_of X G v_MOST_ITEMS⟩, ⟨_, PySem.W.mg_of X G v_MOST_TERMS⟩, ⟨_, PySem.W.mg_of X G v_MOST_DIGITS⟩, ⟨_, PySem.W.mg_of X G v_FACTORS⟩, ⟨_, PySem.W.mg_of X G v_BOUND⟩, ⟨_, PySem.W.mg_of X G v_BEGIN⟩, ⟨_, PySem.W.mg_of X G v_STREAM⟩, ⟨_, PySem.W.mg_of X G v_FEED⟩, ⟨_, PySem.W.mg_of X G v_CLOSE⟩, ⟨_, PySem.W.mg_of X G v_NODE⟩, ⟨_, PySem.W.mg_of X G v_SURE⟩, ⟨_, PySem.W.mg_of X G v_RANGE⟩, ⟨_, PySem.W.mg_of X G v_DIGITS⟩,
    ⟨_, PySem.W.mg_of X G g_LENGTHS, fun H => .inr ⟨_, _, _, w_LENGTHS, rfl, rfl, (by show 9 ≤ sizeLine; decide), .cons ⟨_, rfl⟩ (.cons ⟨_, rfl⟩ (.cons ⟨_, rfl⟩ (.cons ⟨_, rfl⟩ (.cons ⟨_, rfl⟩ (.cons ⟨_, rfl⟩ (.cons ⟨_, rfl⟩ (.cons ⟨_, rfl⟩ (.cons ⟨_, rfl⟩ (.nil)))))))))⟩⟩,
    PySem.W.mg_none_of X G b_len, PySem.W.mg_none_of X G b_isinstance, PySem.W.mg_none_of X G b_all, PySem.W.mg_none_of X G b_tuple, PySem.W.mg_none_of X G b_abs, PySem.W.mg_none_of X G b_divmod, PySem.W.mg_none_of X G b_range, PySem.W.mg_none_of X G b_reversed,
    PySem.W.mg_of X G a_Stream, PySem.W.mg_of X G a_Node, clE, clP, clS, clN, clH, n_End_above, n_End_below, n_End_taken, n_Span_least, n_Span_greatest, n_Stream_terms, n_Stream_ended, n_Node_x, n_Node_y, n_Node_factors, n_House_entries,
    fun H a dx fs e => .base (.ins e clS oc_Stream sp tk om_Stream), fun H a dx fs e => .base (.ins e clN oc_Node sp tk om_Node), is_Stream_Stream, is_Node_Stream, is_Stream_Node, is_Node_Node⟩
  refine ⟨PySem.W.fnOf "answers" "answers" (defArgs s_answers) (defBody s_answers) (defScope s_answers) .none kV49 dc49 pm49 an49 cd49 ct49, fun s us hu => match us, hu with | [_], _ => .of_eq rfl, fun base _ _ hN => ?_⟩
  have CM : Cm P base := ⟨hN, hT⟩
  have I_End : HasC P w K mg base "End" C_End 1 ["self", "above", "below", "taken"] (spInitE C_End) := ⟨_, _, ⟨mk_End, a1, i1, kc_End⟩, PySem.W.mg_of X G a_End, B_End_init, ok_initE F_End_init T⟩
  have I_Span : HasC P w K mg base "Span" C_Span 1 ["self", "least", "greatest"] (spInitP C_Span) := ⟨_, _, ⟨mk_Span, a2, i2, kc_Span⟩, PySem.W.mg_of X G a_Span, B_Span_init, ok_initP F_Span_init T⟩
  have I_Stream : HasC P w K mg base "Stream" C_Stream 1 ["self", "terms", "ended"] (spInitS C_Stream) := ⟨_, _, ⟨mk_Stream, a14, i14, kc_Stream⟩, PySem.W.mg_of X G a_Stream, B_Stream_init, ok_initS F_Stream_init T⟩
  have I_Node : HasC P w K mg base "Node" C_Node 1 ["self", "x", "y", "factors"] (spInitN C_Node) := ⟨_, _, ⟨mk_Node, a19, i19, kc_Node⟩, PySem.W.mg_of X G a_Node, B_Node_init, ok_initN F_Node_init T⟩
  have I_House : HasC P w K mg base "House" C_House 1 ["self"] (spInitH C_House) := ⟨_, _, ⟨mk_House, a33, i33, kc_House⟩, PySem.W.mg_of X G a_House, B_House_init, ok_initH F_House_init T⟩
  have D_compared : Has P w K mg base "compared" 1 ["above", "below", "end"] (spCompared C_End) := ⟨_, _, PySem.W.mg_of X G a3, k3, B_compared, ok_compared F_compared T⟩
  have D_is_alone : Has P w K mg base "is_alone" 2 ["span"] (spAlone C_End C_Span) := ⟨_, _, PySem.W.mg_of X G a4, k4, B_is_alone, ok_alone F_is_alone T D_compared⟩
  have D_whole_part_of_least : Has P w K mg base "whole_part_of_least" 33 ["end", "times"] (spWpl C_End) := ⟨_, _, PySem.W.mg_of X G a5, k5, B_whole_part_of_least, ok_wpl F_whole_part_of_least T CM⟩
  have D_whole_part_of_greatest : Has P w K mg base "whole_part_of_greatest" 33 ["end", "times"] (spWpg C_End) := ⟨_, _, PySem.W.mg_of X G a6, k6, B_whole_part_of_greatest, ok_wpg F_whole_part_of_greatest T CM⟩
  have D_shared_whole_part : Has P w K mg base "shared_whole_part" 34 ["span", "times"] (spSwp C_End C_Span) := ⟨_, _, PySem.W.mg_of X G a7, k7, B_shared_whole_part, ok_swp F_shared_whole_part T D_whole_part_of_least D_whole_part_of_greatest⟩
  have D_lies_within : Has P w K mg base "lies_within" 2 ["span", "above", "below"] (spLies C_End C_Span) := ⟨_, _, PySem.W.mg_of X G a8, k8, B_lies_within, ok_lies F_lies_within T D_compared⟩
  have D_turned : Has P w K mg base "turned" 3 ["end", "part"] (spTurned C_End) := ⟨_, _, PySem.W.mg_of X G a9, k9, B_turned, ok_turned F_turned T I_End⟩
  have D_terms_of_fraction : Has P w K mg base "terms_of_fraction" 33 ["above", "below"] spTof := ⟨_, _, PySem.W.mg_of X G a10, k10, B_terms_of_fraction, ok_tof F_terms_of_fraction T CM⟩
  have D_shared_terms : Has P w K mg base "shared_terms" 35 ["span"] (spShared C_End C_Span) := ⟨_, _, PySem.W.mg_of X G a11, k11, B_shared_terms, ok_shared F_shared_terms T D_is_alone D_terms_of_fraction D_shared_whole_part I_Span D_turned⟩
  have D_greatest_divisor : Has P w K mg base "greatest_divisor" 1 ["first", "second"] spGcd := ⟨_, _, PySem.W.mg_of X G a12, k12, B_greatest_divisor, ok_gcd F_greatest_divisor T⟩
  have D_told_end : Has P w K mg base "told_end" 33 ["end"] (spTold C_End) := ⟨_, _, PySem.W.mg_of X G a13, k13, B_told_end, ok_told F_told_end T CM D_greatest_divisor⟩
  have D_can_end : Has P w K mg base "can_end" 1 ["terms"] (spCan K) := ⟨_, _, PySem.W.mg_of X G a15, k15, B_can_end, ok_can F_can_end T⟩
  have D_end_behind : Has P w K mg base "end_behind" 3 ["terms", "last", "taken"] (spBehind K C_End) := ⟨_, _, PySem.W.mg_of X G a16, k16, B_end_behind, ok_behind F_end_behind T I_End⟩
  have D_stream_span : Has P w K mg base "stream_span" 4 ["stream"] (spStrSpan C_End C_Span C_Stream) := ⟨_, _, PySem.W.mg_of X G a17, k17, B_stream_span, ok_strspan F_stream_span T D_end_behind D_can_end I_Span⟩
  have D_sure_stream : Has P w K mg base "sure_stream" 36 ["span"] (spSureStr C_End C_Span C_Stream) := ⟨_, _, PySem.W.mg_of X G a18, k18, B_sure_stream, ok_surestr F_sure_stream T I_Stream D_shared_terms D_is_alone⟩
  have D_corner_pairs : Has P w K mg base "corner_pairs" 1 ["x", "y"] (spPairs C_Span) := ⟨_, _, PySem.W.mg_of X G a20, k20, B_corner_pairs, ok_pairs F_corner_pairs T⟩
  have D_part_value : Has P w K mg base "part_value" 1 ["factors", "pair"] (spPart K C_End) := ⟨_, _, PySem.W.mg_of X G a21, k21, B_part_value, ok_part F_part_value T⟩
  have D_corner_values : Has P w K mg base "corner_values" 3 ["factors", "pairs"] (spCorner C_End) := ⟨_, _, PySem.W.mg_of X G a22, k22, B_corner_values, ok_corner F_corner_values T D_part_value I_End⟩
  have D_had_along : Has P w K mg base "had_along" 1 ["end", "other", "at_least", "at_greatest"] (spHad C_End C_Span) := ⟨_, _, PySem.W.mg_of X G a23, k23, B_had_along, ok_had F_had_along T⟩
  have D_may_be_had : Has P w K mg base "may_be_had" 2 ["x", "y", "at"] (spMbh C_End C_Span) := ⟨_, _, PySem.W.mg_of X G a24, k24, B_may_be_had, ok_mbh F_may_be_had T D_had_along⟩
  have D_node_end : Has P w K mg base "node_end" 3 ["x", "y", "corners", "end"] (spNodeEnd C_End C_Span) := ⟨_, _, PySem.W.mg_of X G a25, k25, B_node_end, ok_nodeend F_node_end T D_compared I_End D_may_be_had⟩
  have D_node_span : Has P w K mg base "node_span" 4 ["factors", "x", "y"] (spNodeSpan C_End C_Span) := ⟨_, _, PySem.W.mg_of X G a26, k26, B_node_span, ok_nodespan F_node_span T D_corner_values D_corner_pairs D_compared I_Span D_node_end⟩
  have D_entry_span : Has P w K mg base "entry_span" 5 ["entry", "spans"] (spEntry C_End C_Span C_Stream C_Node) := ⟨_, _, PySem.W.mg_of X G a27, k27, B_entry_span, ok_entry F_entry_span T D_stream_span D_node_span⟩
  have D_item_span : Has P w K mg base "item_span" 37 ["entries", "item"] (spItemSpan C_End C_Span C_Stream C_Node C_House) := ⟨_, _, PySem.W.mg_of X G a28, k28, B_item_span, ok_itemspan F_item_span T D_entry_span D_stream_span D_sure_stream⟩
  have D_in_bounds : Has P w K mg base "in_bounds" 1 ["number"] spInB := ⟨_, _, PySem.W.mg_of X G a29, k29, B_in_bounds, ok_inB F_in_bounds T⟩
  have D_can_follow : Has P w K mg base "can_follow" 2 ["terms", "term"] (spFol K) := ⟨_, _, PySem.W.mg_of X G a30, k30, B_can_follow, ok_fol F_can_follow T D_in_bounds⟩
  have D_are_factors : Has P w K mg base "are_factors" 2 ["numbers"] (spAre K) := ⟨_, _, PySem.W.mg_of X G a31, k31, B_are_factors, ok_are F_are_factors T D_in_bounds⟩
  have D_ten_times : Has P w K mg base "ten_times" 1 ["count"] spTen := ⟨_, _, PySem.W.mg_of X G a32, k32, B_ten_times, ok_ten F_ten_times T⟩
  have M_has_item : HasM P w K mg base C_House "has_item" 1 ["self", "item"] (spHasItem C_Stream C_Node C_House) := ⟨clH, _, _, ⟨a34, i34, k34⟩, B_House_has_item, ok_has_item F_House_has_item T⟩
  have M_is_full : HasM P w K mg base C_House "is_full" 1 ["self"] (spIsFull C_Stream C_Node C_House) := ⟨clH, _, _, ⟨a35, i35, k35⟩, B_House_is_full, ok_is_full F_House_is_full T⟩
  have M_find_stream : HasM P w K mg base C_House "find_stream" 2 ["self", "item"] (spFind C_Stream C_Node C_House) := ⟨clH, _, _, ⟨a36, i36, k36⟩, B_House_find_stream, ok_find F_House_find_stream T M_has_item⟩
  have M_put : HasM P w K mg base C_House "put" 1 ["self", "entry"] (spPut C_Stream C_Node C_House) := ⟨clH, _, _, ⟨a37, i37, k37⟩, B_House_put, ok_put F_House_put T⟩
  have M_begin : HasM P w K mg base C_House "begin" 1 ["self"] (spBegin C_Stream C_Node C_House) := ⟨clH, _, _, ⟨a38, i38, k38⟩, B_House_begin, ok_begin F_House_begin T⟩
  have M_stream : HasM P w K mg base C_House "stream" 3 ["self"] (spStream C_Stream C_Node C_House) := ⟨clH, _, _, ⟨a39, i39, k39⟩, B_House_stream, ok_stream F_House_stream T M_is_full M_put I_Stream⟩
  have M_feed : HasM P w K mg base C_House "feed" 3 ["self", "item", "term"] (spFeed C_Stream C_Node C_House) := ⟨clH, _, _, ⟨a40, i40, k40⟩, B_House_feed, ok_feed F_House_feed T M_find_stream D_can_follow⟩
  have M_close : HasM P w K mg base C_House "close" 3 ["self", "item"] (spClose C_Stream C_Node C_House) := ⟨clH, _, _, ⟨a41, i41, k41⟩, B_House_close, ok_close F_House_close T M_find_stream D_can_end⟩
  have M_node : HasM P w K mg base C_House "node" 3 ["self", "x", "y", "numbers"] (spNode K C_Stream C_Node C_House) := ⟨clH, _, _, ⟨a42, i42, k42⟩, B_House_node, ok_node F_House_node T M_has_item M_is_full M_put I_Node D_are_factors⟩
  have M_sure : HasM P w K mg base C_House "sure" 38 ["self", "item"] (spSureM C_Stream C_Node C_House) := ⟨clH, _, _, ⟨a43, i43, k43⟩, B_House_sure, ok_sure F_House_sure T M_has_item M_find_stream D_sure_stream D_item_span⟩
  have M_ends : HasM P w K mg base C_House "ends" 38 ["self", "item"] (spEndsM C_Stream C_Node C_House) := ⟨clH, _, _, ⟨a44, i44, k44⟩, B_House_ends, ok_ends F_House_ends T M_has_item D_item_span D_told_end⟩
  have M_digits : HasM P w K mg base C_House "digits" 38 ["self", "item", "count"] (spDigitsM C_Stream C_Node C_House) := ⟨clH, _, _, ⟨a45, i45, k45⟩, B_House_digits, ok_digits F_House_digits T M_has_item D_item_span D_shared_whole_part D_ten_times⟩
  have M_may : HasM P w K mg base C_House "may" 38 ["self", "item", "above", "below"] (spMayM C_Stream C_Node C_House) := ⟨clH, _, _, ⟨a46, i46, k46⟩, B_House_may, ok_may F_House_may T M_has_item D_item_span D_lies_within⟩
  have D_call_length : Has P w K mg base "call_length" 1 ["calls", "at"] (spCallLength K) := ⟨_, _, PySem.W.mg_of X G a47, k47, B_call_length, ok_call_length F_call_length T⟩
  have D_answer : Has P w K mg base "answer" 39 ["house", "call"] (spAnswer K C_Stream C_Node C_House) := ⟨_, _, PySem.W.mg_of X G a48, k48, B_answer, ok_answer F_answer T M_begin M_stream M_feed M_close M_node M_sure M_ends M_digits M_may⟩
  exact ok_answers F_answers T I_House D_call_length D_answer
end Sv

set_option Elab.async false
set_option maxRecDepth 100000
open PySem PySem.W PyProof.Rows
set_option maxHeartbeats 8000000 in
theorem PySem.Challenge.cw_surelytold_s01_answers_holds : PySem.Challenge.rw_surelytold_s01_answers.Holds := by
  w_on; k_headS; (case hw => exact ⟨[.list [.int 0]], by decide +kernel, by decide +kernel⟩)
  k_fillS
  refine Hb.walkB (r := PySem.Challenge.rw_surelytold_s01_answers) (k := 40) (ps := ["calls"]) (sp := Sv.spAnswers) (by decide +kernel) rfl rfl ⟨rfl, by decide, by decide⟩ (by decide +kernel) (fun w h Y => PySem.W.kIn_of Y) ?F ?S
  case F =>
    intro w mg fa h Y KX G hmg
    refine' Sv.all_mk KX G hmg rfl ?a_End ?a_Span ?a_Stream ?a_Node ?a_House ?a1 ?i1 ?l1 ?c1 ?k1 ?a2 ?i2 ?l2 ?c2 ?k2 ?a3 ?l3 ?c3 ?k3 ?a4 ?l4 ?c4 ?k4 ?a5 ?l5 ?c5 ?k5 ?a6 ?l6 ?c6 ?k6 ?a7 ?l7 ?c7 ?k7 ?a8 ?l8 ?c8 ?k8 ?a9 ?l9 ?c9 ?k9 ?a10 ?l10 ?c10 ?k10 ?a11 ?l11 ?c11 ?k11 ?a12 ?l12 ?c12 ?k12 ?a13 ?l13 ?c13 ?k13 ?a14 ?i14 ?l14 ?c14 ?k14 ?a15 ?l15 ?c15 ?k15 ?a16 ?l16 ?c16 ?k16 ?a17 ?l17 ?c17 ?k17 ?a18 ?l18 ?c18 ?k18 ?a19 ?i19 ?l19 ?c19 ?k19 ?a20 ?l20 ?c20 ?k20 ?a21 ?l21 ?c21 ?k21 ?a22 ?l22 ?c22 ?k22 ?a23 ?l23 ?c23 ?k23 ?a24 ?l24 ?c24 ?k24 ?a25 ?l25 ?c25 ?k25 ?a26 ?l26 ?c26 ?k26 ?a27 ?l27 ?c27 ?k27 ?a28 ?l28 ?c28 ?k28 ?a29 ?l29 ?c29 ?k29 ?a30 ?l30 ?c30 ?k30 ?a31 ?l31 ?c31 ?k31 ?a32 ?l32 ?c32 ?k32 ?a33 ?i33 ?l33 ?c33 ?k33 ?a34 ?i34 ?l34 ?c34 ?k34 ?a35 ?i35 ?l35 ?c35 ?k35 ?a36 ?i36 ?l36 ?c36 ?k36 ?a37 ?i37 ?l37 ?c37 ?k37 ?a38 ?i38 ?l38 ?c38 ?k38 ?a39 ?i39 ?l39 ?c39 ?k39 ?a40 ?i40 ?l40 ?c40 ?k40 ?a41 ?i41 ?l41 ?c41 ?k41 ?a42 ?i42 ?l42 ?c42 ?k42 ?a43 ?i43 ?l43 ?c43 ?k43 ?a44 ?i44 ?l44 ?c44 ?k44 ?a45 ?i45 ?l45 ?c45 ?k45 ?a46 ?i46 ?l46 ?c46 ?k46 ?a47 ?l47 ?c47 ?k47 ?a48 ?l48 ?c48 ?k48 ?a49 ?l49 ?c49 ?k49 ?pg_End ?hd_End ?po_End ?sa_End ?mk_End ?kc_End ?oc_End ?om_End ?n_End_above ?n_End_below ?n_End_taken ?pg_Span ?hd_Span ?po_Span ?sa_Span ?mk_Span ?kc_Span ?oc_Span ?om_Span ?n_Span_least ?n_Span_greatest ?pg_Stream ?hd_Stream ?po_Stream ?sa_Stream ?mk_Stream ?kc_Stream ?oc_Stream ?om_Stream ?n_Stream_terms ?n_Stream_ended ?pg_Node ?hd_Node ?po_Node ?sa_Node ?mk_Node ?kc_Node ?oc_Node ?om_Node ?n_Node_x ?n_Node_y ?n_Node_factors ?pg_House ?hd_House ?po_House ?sa_House ?mk_House ?kc_House ?oc_House ?om_House ?n_House_entries ?sp ?tk ?is_End_Node ?is_Span_Node ?is_Stream_Node ?is_Node_Node ?is_House_Node ?is_End_Stream ?is_Span_Stream ?is_Stream_Stream ?is_Node_Stream ?is_House_Stream ?v_BAD_NUMBER ?v_NO_ITEM ?v_NO_END ?v_NO_MORE ?v_FULL ?v_NOT_KNOWN ?v_MOST_ITEMS ?v_MOST_TERMS ?v_MOST_DIGITS ?v_FACTORS ?v_BOUND ?v_BEGIN ?v_STREAM ?v_FEED ?v_CLOSE ?v_NODE ?v_SURE ?v_RANGE ?v_DIGITS ?g_LENGTHS ?w_LENGTHS ?b_abs ?b_all ?b_divmod ?b_isinstance ?b_len ?b_range ?b_reversed ?b_tuple
    (case a_End => k_is)
    (case a_Span => k_is)
    (case a_Stream => k_is)
    (case a_Node => k_is)
    (case a_House => k_is)
    (case a1 => k_is)
    (case i1 => k_is)
    (case l1 => k_is)
    (case c1 => k_is)
    (case k1 => k_is)
    (case a2 => k_is)
    (case i2 => k_is)
    (case l2 => k_is)
    (case c2 => k_is)
    (case k2 => k_is)
    (case a3 => k_is)
    (case l3 => k_is)
    (case c3 => k_is)
    (case k3 => k_is)
    (case a4 => k_is)
    (case l4 => k_is)
    (case c4 => k_is)
    (case k4 => k_is)
    (case a5 => k_is)
    (case l5 => k_is)
    (case c5 => k_is)
    (case k5 => k_is)
    (case a6 => k_is)
    (case l6 => k_is)
    (case c6 => k_is)
    (case k6 => k_is)
    (case a7 => k_is)
    (case l7 => k_is)
    (case c7 => k_is)
    (case k7 => k_is)
    (case a8 => k_is)
    (case l8 => k_is)
    (case c8 => k_is)
    (case k8 => k_is)
    (case a9 => k_is)
    (case l9 => k_is)
    (case c9 => k_is)
    (case k9 => k_is)
    (case a10 => k_is)
    (case l10 => k_is)
    (case c10 => k_is)
    (case k10 => k_is)
    (case a11 => k_is)
    (case l11 => k_is)
    (case c11 => k_is)
    (case k11 => k_is)
    (case a12 => k_is)
    (case l12 => k_is)
    (case c12 => k_is)
    (case k12 => k_is)
    (case a13 => k_is)
    (case l13 => k_is)
    (case c13 => k_is)
    (case k13 => k_is)
    (case a14 => k_is)
    (case i14 => k_is)
    (case l14 => k_is)
    (case c14 => k_is)
    (case k14 => k_is)
    (case a15 => k_is)
    (case l15 => k_is)
    (case c15 => k_is)
    (case k15 => k_is)
    (case a16 => k_is)
    (case l16 => k_is)
    (case c16 => k_is)
    (case k16 => k_is)
    (case a17 => k_is)
    (case l17 => k_is)
    (case c17 => k_is)
    (case k17 => k_is)
    (case a18 => k_is)
    (case l18 => k_is)
    (case c18 => k_is)
    (case k18 => k_is)
    (case a19 => k_is)
    (case i19 => k_is)
    (case l19 => k_is)
    (case c19 => k_is)
    (case k19 => k_is)
    (case a20 => k_is)
    (case l20 => k_is)
    (case c20 => k_is)
    (case k20 => k_is)
    (case a21 => k_is)
    (case l21 => k_is)
    (case c21 => k_is)
    (case k21 => k_is)
    (case a22 => k_is)
    (case l22 => k_is)
    (case c22 => k_is)
    (case k22 => k_is)
    (case a23 => k_is)
    (case l23 => k_is)
    (case c23 => k_is)
    (case k23 => k_is)
    (case a24 => k_is)
    (case l24 => k_is)
    (case c24 => k_is)
    (case k24 => k_is)
    (case a25 => k_is)
    (case l25 => k_is)
    (case c25 => k_is)
    (case k25 => k_is)
    (case a26 => k_is)
    (case l26 => k_is)
    (case c26 => k_is)
    (case k26 => k_is)
    (case a27 => k_is)
    (case l27 => k_is)
    (case c27 => k_is)
    (case k27 => k_is)
    (case a28 => k_is)
    (case l28 => k_is)
    (case c28 => k_is)
    (case k28 => k_is)
    (case a29 => k_is)
    (case l29 => k_is)
    (case c29 => k_is)
    (case k29 => k_is)
    (case a30 => k_is)
    (case l30 => k_is)
    (case c30 => k_is)
    (case k30 => k_is)
    (case a31 => k_is)
    (case l31 => k_is)
    (case c31 => k_is)
    (case k31 => k_is)
    (case a32 => k_is)
    (case l32 => k_is)
    (case c32 => k_is)
    (case k32 => k_is)
    (case a33 => k_is)
    (case i33 => k_is)
    (case l33 => k_is)
    (case c33 => k_is)
    (case k33 => k_is)
    (case a34 => k_is)
    (case i34 => k_is)
    (case l34 => k_is)
    (case c34 => k_is)
    (case k34 => k_is)
    (case a35 => k_is)
    (case i35 => k_is)
    (case l35 => k_is)
    (case c35 => k_is)
    (case k35 => k_is)
    (case a36 => k_is)
    (case i36 => k_is)
    (case l36 => k_is)
    (case c36 => k_is)
    (case k36 => k_is)
    (case a37 => k_is)
    (case i37 => k_is)
    (case l37 => k_is)
    (case c37 => k_is)
    (case k37 => k_is)
    (case a38 => k_is)
    (case i38 => k_is)
    (case l38 => k_is)
    (case c38 => k_is)
    (case k38 => k_is)
    (case a39 => k_is)
    (case i39 => k_is)
    (case l39 => k_is)
    (case c39 => k_is)
    (case k39 => k_is)
    (case a40 => k_is)
    (case i40 => k_is)
    (case l40 => k_is)
    (case c40 => k_is)
    (case k40 => k_is)
    (case a41 => k_is)
    (case i41 => k_is)
    (case l41 => k_is)
    (case c41 => k_is)
    (case k41 => k_is)
    (case a42 => k_is)
    (case i42 => k_is)
    (case l42 => k_is)
    (case c42 => k_is)
    (case k42 => k_is)
    (case a43 => k_is)
    (case i43 => k_is)
    (case l43 => k_is)
    (case c43 => k_is)
    (case k43 => k_is)
    (case a44 => k_is)
    (case i44 => k_is)
    (case l44 => k_is)
    (case c44 => k_is)
    (case k44 => k_is)
    (case a45 => k_is)
    (case i45 => k_is)
    (case l45 => k_is)
    (case c45 => k_is)
    (case k45 => k_is)
    (case a46 => k_is)
    (case i46 => k_is)
    (case l46 => k_is)
    (case c46 => k_is)
    (case k46 => k_is)
    (case a47 => k_is)
    (case l47 => k_is)
    (case c47 => k_is)
    (case k47 => k_is)
    (case a48 => k_is)
    (case l48 => k_is)
    (case c48 => k_is)
    (case k48 => k_is)
    (case a49 => k_is)
    (case l49 => k_is)
    (case c49 => k_is)
    (case k49 => k_is)
    (case pg_End => k_is)
    (case hd_End => k_is)
    (case po_End => k_is)
    (case sa_End => k_is)
    (case mk_End => k_is)
    (case kc_End => k_is)
    (case oc_End => k_is)
    (case om_End => k_is)
    (case n_End_above => k_is)
    (case n_End_below => k_is)
    (case n_End_taken => k_is)
    (case pg_Span => k_is)
    (case hd_Span => k_is)
    (case po_Span => k_is)
    (case sa_Span => k_is)
    (case mk_Span => k_is)
    (case kc_Span => k_is)
    (case oc_Span => k_is)
    (case om_Span => k_is)
    (case n_Span_least => k_is)
    (case n_Span_greatest => k_is)
    (case pg_Stream => k_is)
    (case hd_Stream => k_is)
    (case po_Stream => k_is)
    (case sa_Stream => k_is)
    (case mk_Stream => k_is)
    (case kc_Stream => k_is)
    (case oc_Stream => k_is)
    (case om_Stream => k_is)
    (case n_Stream_terms => k_is)
    (case n_Stream_ended => k_is)
    (case pg_Node => k_is)
    (case hd_Node => k_is)
    (case po_Node => k_is)
    (case sa_Node => k_is)
    (case mk_Node => k_is)
    (case kc_Node => k_is)
    (case oc_Node => k_is)
    (case om_Node => k_is)
    (case n_Node_x => k_is)
    (case n_Node_y => k_is)
    (case n_Node_factors => k_is)
    (case pg_House => k_is)
    (case hd_House => k_is)
    (case po_House => k_is)
    (case sa_House => k_is)
    (case mk_House => k_is)
    (case kc_House => k_is)
    (case oc_House => k_is)
    (case om_House => k_is)
    (case n_House_entries => k_is)
    (case sp => k_is)
    (case tk => k_is)
    (case is_End_Node => first | rfl | kernel_rfl | decide +kernel)
    (case is_Span_Node => first | rfl | kernel_rfl | decide +kernel)
    (case is_Stream_Node => first | rfl | kernel_rfl | decide +kernel)
    (case is_Node_Node => first | rfl | kernel_rfl | decide +kernel)
    (case is_House_Node => first | rfl | kernel_rfl | decide +kernel)
    (case is_End_Stream => first | rfl | kernel_rfl | decide +kernel)
    (case is_Span_Stream => first | rfl | kernel_rfl | decide +kernel)
    (case is_Stream_Stream => first | rfl | kernel_rfl | decide +kernel)
    (case is_Node_Stream => first | rfl | kernel_rfl | decide +kernel)
    (case is_House_Stream => first | rfl | kernel_rfl | decide +kernel)
    (case v_BAD_NUMBER => k_is)
    (case v_NO_ITEM => k_is)
    (case v_NO_END => k_is)
    (case v_NO_MORE => k_is)
    (case v_FULL => k_is)
    (case v_NOT_KNOWN => k_is)
    (case v_MOST_ITEMS => k_is)
    (case v_MOST_TERMS => k_is)
    (case v_MOST_DIGITS => k_is)
    (case v_FACTORS => k_is)
    (case v_BOUND => k_is)
    (case v_BEGIN => k_is)
    (case v_STREAM => k_is)
    (case v_FEED => k_is)
    (case v_CLOSE => k_is)
    (case v_NODE => k_is)
    (case v_SURE => k_is)
    (case v_RANGE => k_is)
    (case v_DIGITS => k_is)
    (case g_LENGTHS => k_is)
    (case w_LENGTHS => k_is)
    (case b_abs => k_is)
    (case b_all => k_is)
    (case b_divmod => k_is)
    (case b_isinstance => k_is)
    (case b_len => k_is)
    (case b_range => k_is)
    (case b_reversed => k_is)
    (case b_tuple => k_is)
  case S =>
    intro K H xs a hO hwi hask hx
    cases hx with
    | cons h1 h2 =>
      cases h2
      cases h1 with
      | lst hs ha =>
        have e := L2.ints_dw a.1 _ ha
        subst e
        obtain ⟨ys, hc, he, _, hl⟩ := TQ.answers_run (l := a.1) hask
        refine ⟨_, a.1, ys, rfl, hs, hc, hl, fun H' p hp => ?_⟩
        rw [← he] at hp
        exact .lst (L2.SqL.of hp) (L2.dw_ints _)
