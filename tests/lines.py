"""Calls as the interface lays them, and a line of them asked at once."""

from equalterms.terms import answers

TOP_SIGN = 4294967295
LEAST = -2147483648
MOST = 2147483647
WRONG_NUMBERS = (LEAST, -3, -2, MOST)


def init():
    return [0]


def term(f, x=-1, y=-1):
    return [1, f, x, y]


def find(f, x=-1, y=-1):
    return [2, f, x, y]


def join(a, b):
    return [3, a, b]


def part(a, b):
    return [4, a, b]


def same(a, b):
    return [5, a, b]


def laid(calls):
    return [number for call in calls for number in call]


def ask(*calls):
    """The answers of calls that answer one number each."""
    told = answers(laid(calls))
    if len(told) != 2 * len(calls) or any(count != 1 for count in told[0::2]):
        raise AssertionError(f"not one number a call: {told}")
    return told[1::2]


def ask_last(*calls):
    return ask(*calls)[-1]
