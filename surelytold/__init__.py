"""Told as soon as it's sure: what can be said of a number of which the terms come in one by one."""
