"""Many made-up lines, answered by the program and by a slow reading of the document's words."""

import random
import unittest

from lines import (
    ask_each, back, depth, find, head, init, join, mark, part, same, size, term, told_list,
)


class Reference:
    """Keeps the sayings alone and works out who is equal anew each time."""

    def __init__(self):
        self.init()

    def init(self):
        self.terms = []
        self.joined = []
        self.parted = []
        self.marks = []
        return 0

    @staticmethod
    def equals(terms, joined):
        count = len(terms)
        equal = [[a == b or (a, b) in joined or (b, a) in joined for b in range(count)] for a in range(count)]

        def through_parts(a, b):
            one, other = terms[a], terms[b]
            return one[0] == other[0] and all(
                (x == -1 and y == -1) or (x != -1 and y != -1 and equal[x][y]) for x, y in zip(one[1:], other[1:])
            )

        grown = True
        while grown:
            grown = False
            for a in range(count):
                for b in range(count):
                    if not equal[a][b] and (
                        through_parts(a, b) or any(equal[a][c] and equal[c][b] for c in range(count))
                    ):
                        equal[a][b] = True
                        grown = True
        return equal

    def has(self, *numbers):
        return all(number in range(len(self.terms)) for number in numbers)

    def parts_refused(self, x, y):
        return any(part != -1 and not self.has(part) for part in (x, y)) or (x == -1 and y != -1)

    def term(self, f, x, y):
        if self.parts_refused(x, y):
            return -2
        if (f, x, y) not in self.terms:
            self.terms.append((f, x, y))
        return self.terms.index((f, x, y))

    def find(self, f, x, y):
        if self.parts_refused(x, y):
            return -2
        equal = self.equals(self.terms + [(f, x, y)], self.joined)
        return min((number for number in range(len(self.terms)) if equal[-1][number]), default=-1)

    def join(self, a, b):
        if not self.has(a, b):
            return -2
        equal = self.equals(self.terms, self.joined + [(a, b)])
        if any(equal[one][other] for one, other in self.parted):
            return -1
        self.joined.append((a, b))
        return 0

    def part(self, a, b):
        if not self.has(a, b):
            return -2
        if self.equals(self.terms, self.joined)[a][b]:
            return -1
        self.parted.append((a, b))
        return 0

    def same(self, a, b):
        if not self.has(a, b):
            return -2
        equal = self.equals(self.terms, self.joined)
        if equal[a][b]:
            return 1
        ways = self.parted + [(other, one) for one, other in self.parted]
        return 2 if any(equal[a][one] and equal[b][other] for one, other in ways) else 0

    def group(self, a):
        equal = self.equals(self.terms, self.joined)
        return [number for number in range(len(self.terms)) if equal[a][number]]

    def head(self, a):
        return min(self.group(a)) if self.has(a) else -2

    def size(self, a):
        return len(self.group(a)) if self.has(a) else -2

    def told_list(self, a):
        return [len(self.group(a))] + self.group(a) if self.has(a) else -2

    def depth(self, a):
        """The first round in which a is reached: by its parts, or as an equal of one that is reached by its parts."""
        if not self.has(a):
            return -2
        equal = self.equals(self.terms, self.joined)
        count = len(self.terms)
        reached = []
        rounds = 0
        while a not in reached:
            rounds += 1
            by_parts = [b for b in range(count) if all(x == -1 or x in reached for x in self.terms[b][1:])]
            reached = [b for b in range(count) if any(equal[b][c] for c in by_parts)]
        return rounds

    def mark(self):
        if len(self.marks) == 64:
            return -2
        self.marks.append((len(self.terms), len(self.joined), len(self.parted)))
        return len(self.marks)

    def back(self):
        if not self.marks:
            return -1
        terms, joined, parted = self.marks.pop()
        self.terms = self.terms[:terms]
        self.joined = self.joined[:joined]
        self.parted = self.parted[:parted]
        return 0

    def answer(self, call):
        asked = (self.init, self.term, self.find, self.join, self.part, self.same, self.head, self.size, self.depth,
                 self.told_list, self.mark, self.back)[call[0]]
        told = asked(*call[1:])
        return told if isinstance(told, list) else [told]


KINDS = (init, term, find, join, part, same, head, size, depth, told_list, mark, back)
HOW_OFTEN = (1, 40, 20, 25, 12, 20, 8, 8, 30, 12, 8, 7)


def made_up_call(source, count):
    def number():
        return source.randrange(-2, count + 1) if source.random() < 0.08 else source.randrange(max(count, 1))

    def parts():
        x = -1 if source.random() < 0.25 else number()
        return x, -1 if x == -1 or source.random() < 0.5 else number()

    kind = source.choices(KINDS, HOW_OFTEN)[0]
    if kind is init:
        return init() if source.random() < 0.3 else same(number(), number())
    if kind in (mark, back):
        return kind()
    if kind in (term, find):
        return kind(source.randrange(4), *parts())
    if kind in (join, part, same):
        return kind(number(), number())
    return kind(number())


class ReferenceTest(unittest.TestCase):
    def test_made_up_lines(self):
        source = random.Random(20261116)
        seen = set()
        for turn in range(400):
            reference = Reference()
            calls = []
            expected = []
            while len(calls) < 70 and len(reference.terms) < 12:
                calls.append(made_up_call(source, len(reference.terms)))
                expected.append(reference.answer(calls[-1]))
                seen.add((calls[-1][0], min(expected[-1][0], 3)))
            self.assertEqual(ask_each(*calls), expected, calls)
        wanted = {(0, 0), (1, -2), (1, 3), (2, -2), (2, -1), (2, 3), (3, -2), (3, -1), (3, 0), (4, -2), (4, -1),
                  (4, 0), (5, -2), (5, 0), (5, 1), (5, 2), (6, -2), (6, 0), (6, 3), (7, -2), (7, 1), (7, 2), (7, 3),
                  (8, -2), (8, 1), (8, 2), (8, 3), (9, -2), (9, 1), (9, 2), (9, 3), (10, 1), (10, 2), (10, 3),
                  (11, -1), (11, 0)}
        self.assertEqual(wanted - seen, set())


if __name__ == "__main__":
    unittest.main()
