"""How calls and answers lie in their lists, and that nothing is changed or kept."""

import unittest

from equalterms.terms import answers
from lines import (
    LEAST, MOST, back, depth, find, head, init, join, laid, mark, part, same, size, term, told_list,
)

# Every call, each with the numbers that it answers.
CALLED = (
    (init(), [0]), (term(10), [0]), (term(11), [1]), (term(20, 0), [2]), (find(20, 1), [-1]), (mark(), [1]),
    (join(0, 1), [0]), (find(20, 1), [2]), (term(12), [3]), (part(3, 1), [0]), (same(0, 3), [2]), (same(0, 1), [1]),
    (same(2, 3), [0]), (join(0, 3), [-1]), (join(0, 9), [-2]), (term(20, -1, 0), [-2]), (head(1), [0]), (size(1), [2]),
    (told_list(1), [2, 0, 1]), (told_list(3), [1, 3]), (told_list(4), [-2]), (depth(2), [2]), (mark(), [2]),
    (join(2, 3), [0]), (depth(2), [1]), (told_list(3), [2, 2, 3]), (back(), [0]), (depth(2), [2]), (back(), [0]),
    (size(1), [1]), (head(3), [-2]), (size(3), [-2]), (depth(3), [-2]), (told_list(2), [1, 2]), (back(), [-1]),
    (mark(), [1]), (init(), [0]), (same(0, 0), [-2]), (back(), [-1]), (told_list(0), [-2]),
)
LINE = tuple(call for call, told in CALLED)


def refuse_change(self, *given, **named):
    raise AssertionError("the list that was handed in was changed")


CHANGES = (
    "__setitem__", "__delitem__", "__iadd__", "__imul__", "append", "clear", "extend", "insert", "pop", "remove",
    "reverse", "sort",
)

WatchedList = type("WatchedList", (list,), {name: refuse_change for name in CHANGES})


class InterfaceTest(unittest.TestCase):
    def test_answers_of_several_calls(self):
        self.assertEqual(answers(laid(LINE)), laid([len(told)] + told for call, told in CALLED))

    def test_written_out(self):
        line = [1, 7, -1, -1, 1, 8, 0, -1, 5, 0, 1, 4, 0, 1, 5, 1, 0, 2, 8, 0, -1, 3, 1, 1, 0, 5, 0, 0]
        self.assertEqual(answers(line), [1, 0, 1, 1, 1, 0, 1, 0, 1, 2, 1, 1, 1, 0, 1, 0, 1, -2])

    def test_written_out_with_groups_and_marks(self):
        line = [1, 7, -1, -1, 10, 1, 8, 0, -1, 8, 1, 9, 0, 3, 1, 0, 9, 1, 6, 1, 7, 0, 8, 1, 11, 9, 1, 11]
        told = [1, 0, 1, 1, 1, 1, 1, 2, 2, 1, 0, 1, 0, 3, 2, 0, 1, 1, 0, 1, 2, 1, 1, 1, 0, 1, -2, 1, -1]
        self.assertEqual(answers(line), told)

    def test_one_call(self):
        for call, told in ((init(), 0), (term(7), 0), (find(7), -1), (join(0, 0), -2), (part(0, 0), -2),
                           (same(0, 0), -2), (head(0), -2), (size(0), -2), (depth(0), -2), (told_list(0), -2),
                           (mark(), 1), (back(), -1)):
            self.assertEqual(answers(call), [1, told], call)

    def test_numbers_at_their_bounds_are_no_calls(self):
        # What is handed over with a call may look like a call's number.
        for number in (LEAST, 9, 10, 11, MOST):
            line = (term(10), term(11), head(number), told_list(number), term(11, number), mark(), back())
            self.assertEqual(answers(laid(line)), [1, 0, 1, 1, 1, -2, 1, -2, 1, -2, 1, 1, 1, 0], number)

    def test_a_list_of_whole_numbers_is_given_back(self):
        told = answers(laid(LINE))
        self.assertEqual(type(told), list)
        self.assertEqual({type(number) for number in told}, {int})

    def test_what_is_handed_in_stays_as_it_is(self):
        handed = laid(LINE)
        answers(handed)
        self.assertEqual(handed, laid(LINE))

    def test_what_is_handed_in_is_not_changed_for_a_while_either(self):
        self.assertEqual(answers(WatchedList(laid(LINE))), answers(laid(LINE)))

    def test_nothing_is_kept_from_one_time_to_the_next(self):
        line = laid((term(10), term(11), join(0, 1), term(12), part(1, 2), same(0, 1), same(0, 2), mark(), depth(0)))
        first = answers(line)
        self.assertEqual(answers(line), first)
        self.assertEqual(answers(same(0, 0)), [1, -2])
        self.assertEqual(answers(find(10)), [1, -1])
        self.assertEqual(answers(back()), [1, -1])
        self.assertEqual(answers(mark()), [1, 1])
        self.assertEqual(answers(told_list(0)), [1, -2])
        self.assertEqual(answers(line), first)

    def test_what_was_given_back_is_the_callers(self):
        first = answers(laid(LINE))
        first.append(77)
        self.assertEqual(answers(laid(LINE)), first[:-1])

    def test_200_calls_with_40_terms(self):
        towers = [term(10), term(11)] + [term(20, number - 2) for number in range(2, 40)]
        asked = [same(number % 40, (number + 1) % 40) for number in range(159)]
        told = answers(laid(towers + [join(0, 1)] + asked))
        self.assertEqual(len(told), 400)
        self.assertEqual(told[1:82:2], list(range(40)) + [0])
        self.assertEqual(told[83::2], [1 if number % 2 == 0 else 0 for number in range(159)])

    def test_200_calls_that_answer_much(self):
        made = [term(10)] + [term(20, number) for number in range(39)]
        told = answers(laid(made + [mark(), join(1, 0)] + [told_list(39)] * 157 + [back()]))
        self.assertEqual(told[80:84], [1, 1, 1, 0])
        # Not assertEqual: to show where two such long lists part takes minutes.
        self.assertTrue(told[84:] == ([41, 40] + list(range(40))) * 157 + [1, 0])


if __name__ == "__main__":
    unittest.main()
