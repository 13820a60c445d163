"""The calls on one object of terms, and what they answer."""

from equalterms.depth import least_depths
from equalterms.equality import NONE, head_by_parts, heads_after_join, numbers_with_head

INIT = 0
TERM = 1
FIND = 2
JOIN = 3
PART = 4
SAME = 5
HEAD = 6
SIZE = 7
DEPTH = 8
LIST = 9
MARK = 10
BACK = 11

HOW_MANY_GIVEN = {0: 0, 1: 3, 2: 3, 3: 2, 4: 2, 5: 2, 6: 1, 7: 1, 8: 1, 9: 1, 10: 0, 11: 0}

REFUSED = -2
NOT_DONE = -1
DONE = 0

UNKNOWN = 0
EQUAL = 1
DIFFERENT = 2

MOST_TERMS = 512
MOST_SAYINGS = 1024
MOST_MARKS = 64


class Terms:
    def __init__(self):
        self.forget_all()

    def forget_all(self):
        self.made = []
        self.heads = []
        self.join_count = 0
        self.parted = []
        self.marks = []

    def has(self, number):
        return 0 <= number < len(self.made)

    def has_both(self, a, b):
        return self.has(a) and self.has(b)

    def are_parts(self, x, y):
        if x == NONE:
            return y == NONE
        return self.has(x) and (y == NONE or self.has(y))

    def answer_init(self):
        self.forget_all()
        return DONE

    def answer_term(self, sign, x, y):
        if not self.are_parts(x, y):
            return REFUSED
        term = (sign, x, y)
        if term in self.made:
            return self.made.index(term)
        if len(self.made) >= MOST_TERMS:
            return REFUSED
        return self.make(term)

    def make(self, term):
        number = len(self.made)
        head = head_by_parts(self.made, self.heads, term)
        self.made.append(term)
        self.heads.append(number if head == NONE else head)
        return number

    def answer_find(self, sign, x, y):
        if not self.are_parts(x, y):
            return REFUSED
        return head_by_parts(self.made, self.heads, (sign, x, y))

    def answer_join(self, a, b):
        if not self.has_both(a, b):
            return REFUSED
        if self.heads[a] == self.heads[b]:
            return DONE
        if self.join_count >= MOST_SAYINGS:
            return NOT_DONE
        heads = heads_after_join(self.made, self.heads, a, b)
        if self.parted_would_be_equal(heads):
            return NOT_DONE
        self.heads = heads
        self.join_count += 1
        return DONE

    def parted_would_be_equal(self, heads):
        for pair in self.parted:
            if heads[pair[0]] == heads[pair[1]]:
                return True
        return False

    def answer_part(self, a, b):
        if not self.has_both(a, b):
            return REFUSED
        if self.heads[a] == self.heads[b]:
            return NOT_DONE
        if len(self.parted) >= MOST_SAYINGS:
            return NOT_DONE
        self.parted.append((a, b))
        return DONE

    def answer_same(self, a, b):
        if not self.has_both(a, b):
            return REFUSED
        if self.heads[a] == self.heads[b]:
            return EQUAL
        if self.are_different(a, b):
            return DIFFERENT
        return UNKNOWN

    def are_different(self, a, b):
        one_way = (self.heads[a], self.heads[b])
        other_way = (self.heads[b], self.heads[a])
        for pair in self.parted:
            if (self.heads[pair[0]], self.heads[pair[1]]) in (one_way, other_way):
                return True
        return False

    def answer_head(self, a):
        if not self.has(a):
            return REFUSED
        return self.heads[a]

    def answer_size(self, a):
        if not self.has(a):
            return REFUSED
        return len(self.equal_to(a))

    def answer_depth(self, a):
        if not self.has(a):
            return REFUSED
        return least_depths(self.made, self.heads)[self.heads[a]]

    def answer_list(self, a):
        # The one call that may answer several numbers, so that all it answers comes as a list.
        if not self.has(a):
            return [REFUSED]
        equal = self.equal_to(a)
        return [len(equal)] + equal

    def equal_to(self, a):
        return numbers_with_head(self.heads, self.heads[a])

    def answer_mark(self):
        if len(self.marks) >= MOST_MARKS:
            return REFUSED
        # Copies, since term and part lengthen these lists where they lie.
        self.marks.append((list(self.made), list(self.heads), self.join_count, list(self.parted)))
        return len(self.marks)

    def answer_back(self):
        if len(self.marks) == 0:
            return NOT_DONE
        mark = self.marks.pop()
        self.made = mark[0]
        self.heads = mark[1]
        self.join_count = mark[2]
        self.parted = mark[3]
        return DONE


def answer(held, call, given):
    if call == INIT:
        return held.answer_init()
    if call == TERM:
        return held.answer_term(given[0], given[1], given[2])
    if call == FIND:
        return held.answer_find(given[0], given[1], given[2])
    if call == JOIN:
        return held.answer_join(given[0], given[1])
    if call == PART:
        return held.answer_part(given[0], given[1])
    if call == SAME:
        return held.answer_same(given[0], given[1])
    if call == HEAD:
        return held.answer_head(given[0])
    if call == SIZE:
        return held.answer_size(given[0])
    if call == DEPTH:
        return held.answer_depth(given[0])
    if call == MARK:
        return held.answer_mark()
    return held.answer_back()


def all_answered(held, call, given):
    if call == LIST:
        return held.answer_list(given[0])
    return [answer(held, call, given)]


def answers(calls):
    held = Terms()
    told = []
    at = 0
    while at < len(calls):
        behind = at + 1 + HOW_MANY_GIVEN[calls[at]]
        numbers = all_answered(held, calls[at], calls[at + 1:behind])
        told.append(len(numbers))
        told.extend(numbers)
        at = behind
    return told
