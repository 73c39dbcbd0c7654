"""A line's calls as they stand in one list of whole numbers, and their answers in another."""

from surelytold.house import House

BEGIN = 0
STREAM = 1
FEED = 2
CLOSE = 3
NODE = 4
SURE = 5
RANGE = 6
DIGITS = 7

# By a call's number, from begin to may: how many numbers it takes up in the list, a row's own numbers not counted.
LENGTHS = (1, 1, 3, 2, 4, 2, 2, 3, 4)


def call_length(calls, at):
    number = calls[at]
    length = LENGTHS[number]
    if number == NODE:
        length = length + calls[at + 3]
    return length


def answer(house, call):
    number = call[0]
    if number == BEGIN:
        return house.begin()
    if number == STREAM:
        return house.stream()
    if number == FEED:
        return house.feed(call[1], call[2])
    if number == CLOSE:
        return house.close(call[1])
    if number == NODE:
        return house.node(call[1], call[2], call[4:])
    if number == SURE:
        return house.sure(call[1])
    if number == RANGE:
        return house.ends(call[1])
    if number == DIGITS:
        return house.digits(call[1], call[2])
    return house.may(call[1], call[2], call[3])


def answers(calls):
    house = House()
    told = []
    at = 0
    while at < len(calls):
        length = call_length(calls, at)
        answered = answer(house, calls[at:at + length])
        told.append(len(answered))
        told.extend(answered)
        at = at + length
    return told
