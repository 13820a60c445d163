"""Many made-up lines, answered by the program and by a slow reading of the document's words."""

import random
import unittest

from lines import ask, find, init, join, part, same, term


class Reference:
    """Keeps the sayings alone and works out who is equal anew each time."""

    def __init__(self):
        self.init()

    def init(self):
        self.terms = []
        self.joined = []
        self.parted = []
        return 0

    @staticmethod
    def equals(terms, joined):
        count = len(terms)
        equal = [[a == b or (a, b) in joined or (b, a) in joined for b in range(count)] for a in range(count)]

        def through_parts(a, b):
            one, other = terms[a], terms[b]
            return one[0] == other[0] and all(
                (x == -1 and y == -1) or (x != -1 and y != -1 and equal[x][y]) for x, y in zip(one[1:], other[1:])
            )

        grown = True
        while grown:
            grown = False
            for a in range(count):
                for b in range(count):
                    if not equal[a][b] and (
                        through_parts(a, b) or any(equal[a][c] and equal[c][b] for c in range(count))
                    ):
                        equal[a][b] = True
                        grown = True
        return equal

    def has(self, *numbers):
        return all(number in range(len(self.terms)) for number in numbers)

    def parts_refused(self, x, y):
        return any(part != -1 and not self.has(part) for part in (x, y)) or (x == -1 and y != -1)

    def term(self, f, x, y):
        if self.parts_refused(x, y):
            return -2
        if (f, x, y) not in self.terms:
            self.terms.append((f, x, y))
        return self.terms.index((f, x, y))

    def find(self, f, x, y):
        if self.parts_refused(x, y):
            return -2
        equal = self.equals(self.terms + [(f, x, y)], self.joined)
        return min((number for number in range(len(self.terms)) if equal[-1][number]), default=-1)

    def join(self, a, b):
        if not self.has(a, b):
            return -2
        equal = self.equals(self.terms, self.joined + [(a, b)])
        if any(equal[one][other] for one, other in self.parted):
            return -1
        self.joined.append((a, b))
        return 0

    def part(self, a, b):
        if not self.has(a, b):
            return -2
        if self.equals(self.terms, self.joined)[a][b]:
            return -1
        self.parted.append((a, b))
        return 0

    def same(self, a, b):
        if not self.has(a, b):
            return -2
        equal = self.equals(self.terms, self.joined)
        if equal[a][b]:
            return 1
        ways = self.parted + [(other, one) for one, other in self.parted]
        return 2 if any(equal[a][one] and equal[b][other] for one, other in ways) else 0

    def answer(self, call):
        return (self.init, self.term, self.find, self.join, self.part, self.same)[call[0]](*call[1:])


def made_up_call(source, count):
    def number():
        return source.randrange(-2, count + 1) if source.random() < 0.08 else source.randrange(max(count, 1))

    def parts():
        x = -1 if source.random() < 0.25 else number()
        return x, -1 if x == -1 or source.random() < 0.5 else number()

    kind = source.choices((init, term, find, join, part, same), (1, 40, 25, 30, 15, 30))[0]
    if kind is init:
        return init() if source.random() < 0.3 else same(number(), number())
    if kind in (term, find):
        return kind(source.randrange(4), *parts())
    return kind(number(), number())


class ReferenceTest(unittest.TestCase):
    def test_made_up_lines(self):
        source = random.Random(20261116)
        seen = set()
        for turn in range(250):
            reference = Reference()
            calls = []
            expected = []
            while len(calls) < 50 and len(reference.terms) < 12:
                calls.append(made_up_call(source, len(reference.terms)))
                expected.append(reference.answer(calls[-1]))
                seen.add((calls[-1][0], min(expected[-1], 3)))
            self.assertEqual(ask(*calls), expected, calls)
        wanted = {(0, 0), (1, -2), (1, 3), (2, -2), (2, -1), (2, 3), (3, -2), (3, -1), (3, 0), (4, -2), (4, -1),
                  (4, 0), (5, -2), (5, 0), (5, 1), (5, 2)}
        self.assertEqual(wanted - seen, set())


if __name__ == "__main__":
    unittest.main()
