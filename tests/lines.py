"""Calls as the interface lays them, and a line of them asked at once."""

from equalterms.terms import answers

TOP_SIGN = 4294967295
LEAST = -2147483648
MOST = 2147483647
WRONG_NUMBERS = (LEAST, -3, -2, MOST)


def init():
    return [0]


def term(f, x=-1, y=-1):
    return [1, f, x, y]


def find(f, x=-1, y=-1):
    return [2, f, x, y]


def join(a, b):
    return [3, a, b]


def part(a, b):
    return [4, a, b]


def same(a, b):
    return [5, a, b]


def head(a):
    return [6, a]


def size(a):
    return [7, a]


def depth(a):
    return [8, a]


def told_list(a):
    return [9, a]


def mark():
    return [10]


def back():
    return [11]


def laid(calls):
    return [number for call in calls for number in call]


def ask_each(*calls):
    """The answers of calls, for each call the list of its numbers."""
    told = answers(laid(calls))
    each = []
    at = 0
    while at < len(told):
        behind = at + 1 + told[at]
        if told[at] < 1 or behind > len(told):
            raise AssertionError(f"no count of numbers at {at}: {told}")
        each.append(told[at + 1:behind])
        at = behind
    if len(each) != len(calls):
        raise AssertionError(f"{len(each)} answers to {len(calls)} calls: {told}")
    return each


def ask(*calls):
    """The answers of calls that answer one number each."""
    each = ask_each(*calls)
    if any(len(numbers) != 1 for numbers in each):
        raise AssertionError(f"not one number a call: {each}")
    return [numbers[0] for numbers in each]


def ask_last(*calls):
    return ask(*calls)[-1]


# Terms that several tests begin with.
THREE_SIGNS = (term(10), term(11), term(12))
FOUR_SIGNS = THREE_SIGNS + (term(13),)

# 0: a, 1: b, 2: g(a), 3: g(b), 4: h(g(a)), 5: h(g(b))
TWO_TOWERS = (term(10), term(11), term(20, 0), term(20, 1), term(21, 2), term(21, 3))
