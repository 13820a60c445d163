"""How calls and answers lie in their lists, and that nothing is changed or kept."""

import unittest

from equalterms.terms import answers
from lines import find, init, join, laid, part, same, term

LINE = (
    init(), term(10), term(11), term(20, 0), find(20, 1), join(0, 1), find(20, 1), term(12), part(3, 1), same(0, 3),
    same(0, 1), same(2, 3), join(0, 3), join(0, 9), term(20, -1, 0), init(), same(0, 0),
)
ANSWERED = [0, 0, 1, 2, -1, 0, 2, 3, 0, 2, 1, 0, -1, -2, -2, 0, -2]


def refuse_change(self, *given, **named):
    raise AssertionError("the list that was handed in was changed")


CHANGES = (
    "__setitem__", "__delitem__", "__iadd__", "__imul__", "append", "clear", "extend", "insert", "pop", "remove",
    "reverse", "sort",
)

WatchedList = type("WatchedList", (list,), {name: refuse_change for name in CHANGES})


class InterfaceTest(unittest.TestCase):
    def test_answers_of_several_calls(self):
        self.assertEqual(answers(laid(LINE)), [number for told in ANSWERED for number in (1, told)])

    def test_written_out(self):
        self.assertEqual(answers([1, 7, -1, -1, 1, 8, 0, -1, 5, 0, 1, 4, 0, 1, 5, 1, 0, 2, 8, 0, -1, 3, 1, 1, 0, 5, 0, 0]),
                         [1, 0, 1, 1, 1, 0, 1, 0, 1, 2, 1, 1, 1, 0, 1, 0, 1, -2])

    def test_a_list_of_whole_numbers_is_given_back(self):
        told = answers(laid(LINE))
        self.assertEqual(type(told), list)
        self.assertEqual({type(number) for number in told}, {int})

    def test_what_is_handed_in_stays_as_it_is(self):
        handed = laid(LINE)
        answers(handed)
        self.assertEqual(handed, laid(LINE))

    def test_what_is_handed_in_is_not_changed_for_a_while_either(self):
        self.assertEqual(answers(WatchedList(laid(LINE))), answers(laid(LINE)))

    def test_nothing_is_kept_from_one_time_to_the_next(self):
        line = laid((term(10), term(11), join(0, 1), term(12), part(1, 2), same(0, 1), same(0, 2)))
        first = answers(line)
        self.assertEqual(answers(line), first)
        self.assertEqual(answers(same(0, 0)), [1, -2])
        self.assertEqual(answers(find(10)), [1, -1])
        self.assertEqual(answers(line), first)

    def test_what_was_given_back_is_the_callers(self):
        first = answers(laid(LINE))
        first.append(77)
        self.assertEqual(answers(laid(LINE)), first[:-1])

    def test_200_calls_with_40_terms(self):
        towers = [term(10), term(11)] + [term(20, number - 2) for number in range(2, 40)]
        asked = [same(number % 40, (number + 1) % 40) for number in range(159)]
        told = answers(laid(towers + [join(0, 1)] + asked))
        self.assertEqual(len(told), 400)
        self.assertEqual(told[1:82:2], list(range(40)) + [0])
        self.assertEqual(told[83::2], [1 if number % 2 == 0 else 0 for number in range(159)])


if __name__ == "__main__":
    unittest.main()
