"""Promise 7: head, size and list, each with ordinary inputs, its edges and wrong inputs."""

import unittest

from equalterms.terms import Terms, answers
from lines import (
    FOUR_SIGNS, LEAST, MOST, THREE_SIGNS, TWO_TOWERS, WRONG_NUMBERS, ask_each, find, head, init, join, laid, part,
    same, size, term, told_list,
)


def groups(count, *calls):
    """What head, size and list tell of the terms 0 to count - 1 behind these calls, as one list of groups."""
    asked = [call for number in range(count) for call in (head(number), size(number), told_list(number))]
    told = ask_each(*calls, *asked)[len(calls):]
    found = []
    for number in range(count):
        first, how_many, listed = told[3 * number:3 * number + 3]
        group = listed[1:]
        if number not in group or first != [group[0]] or how_many != [len(group)] or listed[0] != len(group):
            raise AssertionError(f"of {number}: head {first}, size {how_many}, list {listed}")
        if group not in found:
            found.append(group)
    if sorted(laid(found)) != list(range(count)):
        raise AssertionError(f"a number in several groups: {found}")
    return found


class GroupTest(unittest.TestCase):
    def test_equal_to_no_other(self):
        told = ask_each(*THREE_SIGNS, head(1), size(1), told_list(1), head(0), size(2), told_list(2))
        self.assertEqual(told[3:], [[1], [1], [1, 1], [0], [1], [1, 2]])

    def test_how_they_lie_in_the_list_of_answers(self):
        told = answers(laid((*THREE_SIGNS, join(2, 0), head(2), size(2), told_list(2), told_list(1), told_list(3))))
        self.assertEqual(told[6:], [1, 0, 1, 0, 1, 2, 3, 2, 0, 2, 2, 1, 1, 1, -2])

    def test_equal_by_join(self):
        self.assertEqual(groups(4, *FOUR_SIGNS, join(1, 3)), [[0], [1, 3], [2]])
        self.assertEqual(groups(4, *FOUR_SIGNS, join(3, 1)), [[0], [1, 3], [2]])

    def test_equal_through_a_third(self):
        self.assertEqual(groups(4, *FOUR_SIGNS, join(3, 1), join(2, 3)), [[0], [1, 2, 3]])
        self.assertEqual(groups(4, *FOUR_SIGNS, join(1, 2), join(3, 1)), [[0], [1, 2, 3]])

    def test_two_groups_meet(self):
        self.assertEqual(groups(4, *FOUR_SIGNS, join(3, 0), join(2, 1)), [[0, 3], [1, 2]])
        self.assertEqual(groups(4, *FOUR_SIGNS, join(3, 0), join(2, 1), join(2, 3)), [[0, 1, 2, 3]])

    def test_equal_through_parts(self):
        self.assertEqual(groups(6, *TWO_TOWERS, join(1, 0)), [[0, 1], [2, 3], [4, 5]])
        self.assertEqual(groups(6, *TWO_TOWERS, join(3, 2)), [[0], [1], [2, 3], [4, 5]])
        self.assertEqual(groups(6, *TWO_TOWERS, join(4, 5)), [[0], [1], [2], [3], [4, 5]])

    def test_equal_through_two_parts(self):
        pairs = (*FOUR_SIGNS, term(20, 0, 1), term(20, 2, 3), term(20, 3, 2))
        self.assertEqual(groups(7, *pairs, join(0, 2)), [[0, 2], [1], [3], [4], [5], [6]])
        self.assertEqual(groups(7, *pairs, join(0, 2), join(3, 1)), [[0, 2], [1, 3], [4, 5], [6]])
        self.assertEqual(groups(7, *pairs, join(0, 2), join(3, 1), join(1, 0)), [[0, 1, 2, 3], [4, 5, 6]])

    def test_equal_to_its_own_part(self):
        self.assertEqual(groups(6, *TWO_TOWERS, join(2, 0)), [[0, 2], [1], [3], [4], [5]])
        self.assertEqual(groups(4, term(10), term(20, 0), term(20, 1), term(20, 2), join(1, 0)), [[0, 1, 2, 3]])

    def test_least_number_may_come_last(self):
        told = ask_each(*FOUR_SIGNS, join(3, 2), head(3), join(2, 1), head(3), join(1, 0), head(3), told_list(2))
        self.assertEqual(told[4:], [[0], [2], [0], [1], [0], [0], [4, 0, 1, 2, 3]])

    def test_numbers_rise_however_the_joins_were_said(self):
        five = (*FOUR_SIGNS, term(14))
        for joins in (
            (join(4, 0), join(2, 4), join(1, 2), join(3, 1)),
            (join(3, 4), join(1, 0), join(4, 2), join(2, 1)),
            (join(0, 4), join(4, 3), join(3, 2), join(2, 1)),
            (join(2, 3), join(0, 2), join(1, 4), join(4, 3)),
        ):
            for number in range(5):
                self.assertEqual(ask_each(*five, *joins, told_list(number))[-1], [5, 0, 1, 2, 3, 4], joins)

    def test_terms_made_later(self):
        told = ask_each(term(10), term(11), term(20, 1), join(0, 1), told_list(2), term(20, 0), told_list(2), head(3),
                        size(3), term(21, 3), told_list(4))
        self.assertEqual(told[4:], [[1, 2], [3], [2, 2, 3], [2], [2], [4], [1, 4]])

    def test_difference_does_not_matter(self):
        self.assertEqual(groups(3, *THREE_SIGNS, part(0, 1), join(0, 2), part(1, 2)), [[0, 2], [1]])

    def test_a_join_that_is_not_done_leaves_the_groups(self):
        self.assertEqual(groups(6, *TWO_TOWERS, part(4, 5), join(0, 1), join(2, 3)), [[0], [1], [2], [3], [4], [5]])

    def test_asking_changes_nothing(self):
        line = (*TWO_TOWERS, join(2, 3), part(0, 1))
        asked = (head(3), size(3), told_list(3), head(9), size(-1), told_list(9))
        looked_at = (same(0, 1), same(2, 3), same(4, 5), find(20, 1), find(21, 3), find(22), told_list(3))
        self.assertEqual(ask_each(*line, *asked, *asked, *looked_at)[20:], ask_each(*line, *looked_at)[8:])

    def test_nothing_is_left_by_init(self):
        told = ask_each(*THREE_SIGNS, join(0, 1), init(), head(0), size(0), told_list(0), term(11), told_list(0))
        self.assertEqual(told[4:], [[0], [-2], [-2], [-2], [0], [1, 0]])

    def test_refusals(self):
        for wrong in WRONG_NUMBERS + (-1, 3):
            told = ask_each(*THREE_SIGNS, join(0, 2), head(wrong), size(wrong), told_list(wrong), told_list(0))
            self.assertEqual(told[4:], [[-2], [-2], [-2], [2, 0, 2]], wrong)

    def test_refusals_without_terms(self):
        for wrong in (LEAST, -1, 0, 1, MOST):
            self.assertEqual(answers(laid((head(wrong), size(wrong), told_list(wrong)))), [1, -2, 1, -2, 1, -2], wrong)

    def test_all_of_512_terms(self):
        held = Terms()
        for sign in range(512):
            held.answer_term(sign, -1, -1)
        for number in range(511, 0, -1):
            self.assertEqual(held.answer_join(number, number - 1), 0)
        self.assertEqual(held.answer_head(511), 0)
        self.assertEqual(held.answer_size(511), 512)
        self.assertEqual(held.answer_list(511), [512] + list(range(512)))
        self.assertEqual(held.answer_list(512), [-2])


if __name__ == "__main__":
    unittest.main()
