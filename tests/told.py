"""Calls as lists of whole numbers, and a short way to hand several in."""

from trainseatsyard.train import answers

HIGHEST = 4294967295


def begins(legs=8, seats=5, move=1, wish=1, apart=1):
    return [0, legs, seats, move, wish, apart]


def pair(a, b):
    return [1, a, b]


def rider(start=0, to=1, group=0, wished=0):
    return [2, start, to, group, wished]


def drop(i):
    return [3, i]


def laid(calls):
    return [number for call in calls for number in call]


def asked(*calls):
    """What each call answers; fails if an answer is not one number alone."""
    given = answers(laid(calls))
    if len(given) != 2 * len(calls) or any(count != 1 for count in given[::2]):
        raise AssertionError(f"not one number a call: {given}")
    return given[1::2]
