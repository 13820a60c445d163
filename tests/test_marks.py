"""Promise 9: mark and back, with ordinary inputs and their edges; and promise 1: init leaves no marks."""

import unittest

from equalterms.terms import Terms, answers
from lines import (
    FOUR_SIGNS, THREE_SIGNS, TWO_TOWERS, ask, ask_each, back, depth, find, head, init, join, mark, part, same, size,
    term, told_list,
)

# What can be asked of the terms 0 to 3 and of terms that are made of them.
LOOK_AT_FOUR = tuple(
    call for a in range(4)
    for call in (head(a), size(a), depth(a), told_list(a), *(same(a, b) for b in range(5)), find(20, a), find(21, a, 1))
)


class MarkTest(unittest.TestCase):
    def test_how_many_there_are(self):
        self.assertEqual(ask(mark(), mark(), mark()), [1, 2, 3])
        self.assertEqual(ask(term(10), mark(), term(11), mark(), join(0, 1), mark()), [0, 1, 1, 2, 0, 3])

    def test_as_numbers(self):
        self.assertEqual(answers([10, 10, 11, 10, 11, 11, 11]), [1, 1, 1, 2, 1, 0, 1, 2, 1, 0, 1, 0, 1, -1])

    def test_how_many_after_back(self):
        self.assertEqual(ask(mark(), mark(), back(), mark(), back(), back(), mark()), [1, 2, 0, 2, 0, 0, 1])

    def test_64_marks_at_most(self):
        told = ask(*[mark()] * 67, back(), mark(), mark())
        self.assertEqual(told, list(range(1, 65)) + [-2, -2, -2, 0, 64, -2])

    def test_one_that_is_refused_changes_nothing(self):
        # The refused mark would stand behind join; back goes to the 64th, which stands before it.
        told = ask(*THREE_SIGNS, *[mark()] * 64, join(0, 1), mark(), term(13), same(0, 1), back(), same(0, 1),
                   head(3), *[back()] * 64)
        self.assertEqual(told[67:], [0, -2, 3, 1, 0, 0, -2] + [0] * 63 + [-1])

    def test_marking_changes_nothing_else(self):
        line = (*FOUR_SIGNS, join(3, 1), part(0, 1))
        self.assertEqual(ask_each(*line, mark(), *LOOK_AT_FOUR)[7:], ask_each(*line, *LOOK_AT_FOUR)[6:])


class BackTest(unittest.TestCase):
    def test_no_mark(self):
        self.assertEqual(ask(back(), back(), mark(), back(), back()), [-1, -1, 1, 0, -1])

    def test_no_mark_changes_nothing(self):
        line = (*FOUR_SIGNS, join(3, 1), part(0, 1))
        told = ask_each(*line, back(), *LOOK_AT_FOUR)
        self.assertEqual(told[6], [-1])
        self.assertEqual(told[7:], ask_each(*line, *LOOK_AT_FOUR)[6:])

    def test_to_before_the_first_term(self):
        told = ask(mark(), term(10), term(20, 0), back(), head(0), find(10), term(20, 0), term(11))
        self.assertEqual(told, [1, 0, 1, 0, -2, -1, -2, 0])

    def test_terms_made_since_are_gone(self):
        told = ask(term(10), term(11), mark(), term(12), term(20, 0), back(), head(2), size(3), depth(2), told_list(3),
                   same(0, 2), join(2, 0), part(3, 0), find(12), find(20, 0), find(20, 2), term(20, 2), head(1))
        self.assertEqual(told[5:], [0, -2, -2, -2, -2, -2, -2, -2, -1, -1, -2, -2, 1])

    def test_a_term_made_again_gets_the_next_number(self):
        told = ask(term(10), mark(), term(11), term(12), term(13), back(), term(13), term(14), term(12), term(13))
        self.assertEqual(told, [0, 1, 1, 2, 3, 0, 1, 2, 3, 1])

    def test_terms_made_before_stay(self):
        told = ask(term(10), term(20, 0), mark(), term(20, 1), back(), term(20, 0), term(10), find(20, 0), head(1))
        self.assertEqual(told[4:], [0, 1, 0, 1, 1])

    def test_joins_said_since_are_gone(self):
        told = ask_each(*THREE_SIGNS, mark(), join(0, 1), join(1, 2), back(), same(0, 1), same(1, 2), told_list(0),
                        head(2), part(0, 1), same(0, 1))
        self.assertEqual(told[6:], [[0], [0], [0], [1, 0], [2], [0], [2]])

    def test_what_followed_from_them_is_gone(self):
        line = (*TWO_TOWERS, mark(), join(0, 1), same(4, 5), depth(5), join(2, 0), depth(5), back())
        told = ask_each(*line, same(2, 3), same(4, 5), told_list(4), size(3), head(5), depth(5), find(21, 3))
        self.assertEqual(told[8:], [[1], [3], [0], [2], [0], [0], [0], [1, 4], [1], [5], [3], [5]])

    def test_parts_said_since_are_gone(self):
        told = ask(*THREE_SIGNS, mark(), part(0, 1), join(0, 1), back(), same(0, 1), join(0, 1), same(0, 1))
        self.assertEqual(told[4:], [0, -1, 0, 0, 0, 1])

    def test_what_was_said_before_stays(self):
        line = (*FOUR_SIGNS, join(3, 1), part(0, 1))
        since = (term(20, 3), join(2, 3), part(0, 2), term(20, 2), join(0, 4), term(14))
        told = ask_each(*line, mark(), *since, back(), *LOOK_AT_FOUR)
        self.assertEqual(told[7:14], [[4], [0], [0], [5], [0], [6], [0]])
        self.assertEqual(told[14:], ask_each(*line, *LOOK_AT_FOUR)[6:])

    def test_what_was_said_before_goes_on_working(self):
        told = ask(*FOUR_SIGNS, part(0, 1), join(1, 2), mark(), join(0, 3), back(), join(0, 2), join(3, 2), join(0, 3),
                   same(1, 3))
        self.assertEqual(told[6:], [1, 0, 0, -1, 0, -1, 1])

    def test_wholes_made_after_back(self):
        # g(b) was equal to g(a) behind the mark; made anew it stands by itself until a and b are joined again.
        told = ask(term(10), term(11), term(20, 0), mark(), join(0, 1), term(20, 1), same(2, 3), back(), find(20, 1),
                   term(20, 1), same(2, 3), join(0, 1), same(2, 3))
        self.assertEqual(told[3:], [1, 0, 3, 1, 0, -1, 3, 0, 0, 1])

    def test_a_join_that_is_not_done_between(self):
        line = (*FOUR_SIGNS, join(3, 1), part(0, 1))
        told = ask_each(*line, mark(), join(0, 3), back(), *LOOK_AT_FOUR, back())
        self.assertEqual(told[6:9], [[1], [-1], [0]])
        self.assertEqual(told[9:-1], ask_each(*line, *LOOK_AT_FOUR)[6:])
        self.assertEqual(told[-1], [-1])

    def test_a_part_that_is_not_done_between(self):
        told = ask(*THREE_SIGNS, join(0, 1), mark(), part(0, 1), back(), same(0, 1), join(1, 2), same(0, 2))
        self.assertEqual(told[4:], [1, -1, 0, 1, 0, 1])

    def test_refused_calls_between(self):
        told = ask(term(10), mark(), term(20, 1), term(20, -1, 0), join(0, 1), part(1, 0), find(10, 2), depth(1),
                   back(), term(20, 0), head(1), back())
        self.assertEqual(told[1:], [1, -2, -2, -2, -2, -2, -2, 0, 1, 1, -1])

    def test_nothing_between(self):
        line = (*FOUR_SIGNS, join(3, 1), part(0, 1))
        told = ask_each(*line, mark(), back(), *LOOK_AT_FOUR)
        self.assertEqual(told[8:], ask_each(*line, *LOOK_AT_FOUR)[6:])

    def test_several_marks_each_taken_back(self):
        line = (*FOUR_SIGNS, mark(), join(0, 1), mark(), join(1, 2), part(2, 3), mark(), term(20, 0), join(4, 0))
        told = ask_each(*line, told_list(0), same(0, 3), head(4), back(), told_list(0), same(0, 3), head(4), back(),
                        told_list(0), same(0, 3), back(), told_list(0), back(), told_list(0))
        self.assertEqual(told[4:12], [[1], [0], [2], [0], [0], [3], [4], [0]])
        self.assertEqual(told[12:], [[4, 0, 1, 2, 4], [2], [0], [0], [3, 0, 1, 2], [2], [-2], [0], [2, 0, 1], [0], [0],
                                     [1, 0], [-1], [1, 0]])

    def test_marks_at_one_place(self):
        told = ask(*THREE_SIGNS, mark(), mark(), join(0, 1), back(), same(0, 1), join(0, 2), part(0, 1), back(),
                   same(0, 2), same(0, 1), back())
        self.assertEqual(told[3:], [1, 2, 0, 0, 0, 0, 0, 0, 0, 0, -1])

    def test_what_is_said_after_back_goes_with_the_mark_before(self):
        told = ask(*THREE_SIGNS, mark(), join(0, 1), mark(), join(1, 2), back(), part(1, 2), term(13), same(0, 2),
                   back(), same(0, 1), same(0, 2), head(3), mark())
        self.assertEqual(told[7:], [0, 0, 3, 2, 0, 0, 0, -2, 1])

    def test_the_same_way_twice(self):
        way = (mark(), term(20, 3), join(2, 3), part(0, 2), *LOOK_AT_FOUR[:22], told_list(4), back())
        told = ask_each(*FOUR_SIGNS, join(3, 1), *way, *way)[5:]
        self.assertEqual(told[:len(way)], told[len(way):])

    def test_64_steps_there_and_back(self):
        held = Terms()
        for step in range(64):
            self.assertEqual(held.answer_mark(), step + 1)
            self.assertEqual(held.answer_term(step, -1, -1), step)
            self.assertEqual(held.answer_join(0, step), 0)
        for step in range(63, -1, -1):
            self.assertEqual(held.answer_size(0), step + 1)
            self.assertEqual(held.answer_back(), 0)
            self.assertEqual(held.answer_head(step), -2)
        self.assertEqual(held.answer_back(), -1)

    def test_512_terms_can_be_made_again(self):
        held = Terms()
        held.answer_term(0, -1, -1)
        held.answer_mark()
        for sign in range(1, 512):
            held.answer_term(sign, -1, -1)
        self.assertEqual(held.answer_term(512, -1, -1), -2)
        self.assertEqual(held.answer_back(), 0)
        self.assertEqual(held.answer_term(512, -1, -1), 1)

    def test_sayings_since_do_not_count(self):
        held = Terms()
        for sign in range(4):
            held.answer_term(sign, -1, -1)
        held.answer_part(0, 1)
        held.join_count = 1023
        held.answer_mark()
        for turn in range(1023):
            self.assertEqual(held.answer_part(0, 1), 0)
        self.assertEqual(held.answer_join(2, 3), 0)
        self.assertEqual([held.answer_part(0, 2), held.answer_join(0, 2)], [-1, -1])
        self.assertEqual(held.answer_back(), 0)
        self.assertEqual([held.answer_part(0, 2), held.answer_join(2, 3), held.answer_same(0, 3)], [0, 0, 2])


class InitTest(unittest.TestCase):
    def test_no_marks_after_it(self):
        self.assertEqual(ask(mark(), mark(), init(), back(), mark(), mark()), [1, 2, 0, -1, 1, 2])

    def test_what_was_marked_does_not_come_back(self):
        told = ask(*THREE_SIGNS, join(0, 1), mark(), init(), back(), head(0), term(11), back(), find(10), head(0))
        self.assertEqual(told[4:], [1, 0, -1, -2, 0, -1, -1, 0])

    def test_64_marks_can_be_made_again(self):
        told = ask(*[mark()] * 65, init(), *[mark()] * 65)
        self.assertEqual(told, (list(range(1, 65)) + [-2, 0]) + list(range(1, 65)) + [-2])


if __name__ == "__main__":
    unittest.main()
