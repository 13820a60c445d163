"""Promises 1 to 6 (of 1, what it says of terms and sayings), each with ordinary inputs, its edges and wrong inputs."""

import unittest

from equalterms.terms import Terms
from lines import (
    FOUR_SIGNS, LEAST, MOST, THREE_SIGNS, TOP_SIGN, TWO_TOWERS, WRONG_NUMBERS, ask, ask_last, find, init, join, part,
    same, term,
)

# What a call that changes nothing must leave as it was, for the terms 0 to 2 of THREE_SIGNS.
LOOK_AT_THREE = (
    same(0, 1), same(0, 2), same(1, 2), find(10), find(11), find(12), find(20, 0), find(20, 0, 1),
)


class InitTest(unittest.TestCase):
    def test_first_call(self):
        self.assertEqual(ask(init()), [0])

    def test_no_terms_after_it(self):
        told = ask(term(10), term(11), init(), same(0, 0), find(10), term(11), term(10), find(10))
        self.assertEqual(told, [0, 1, 0, -2, -1, 0, 1, 1])

    def test_nothing_is_held_equal_after_it(self):
        told = ask(term(10), term(11), join(0, 1), init(), term(10), term(11), same(0, 1), part(0, 1))
        self.assertEqual(told, [0, 1, 0, 0, 0, 1, 0, 0])

    def test_nothing_is_held_different_after_it(self):
        told = ask(term(10), term(11), part(0, 1), init(), term(10), term(11), same(0, 1), join(0, 1), same(0, 1))
        self.assertEqual(told, [0, 1, 0, 0, 0, 1, 0, 0, 1])

    def test_twice(self):
        self.assertEqual(ask(term(10), init(), init(), term(10)), [0, 0, 0, 0])

    def test_counts_of_sayings_begin_again(self):
        held = Terms()
        held.answer_term(10, -1, -1)
        held.answer_term(11, -1, -1)
        for turn in range(1024):
            held.answer_part(0, 1)
        held.join_count = 1024
        self.assertEqual(held.answer_init(), 0)
        held.answer_term(10, -1, -1)
        held.answer_term(11, -1, -1)
        held.answer_term(12, -1, -1)
        self.assertEqual(held.answer_part(0, 1), 0)
        self.assertEqual(held.answer_join(0, 2), 0)


class TermTest(unittest.TestCase):
    def test_numbers_from_0_with_no_one_and_two_parts(self):
        self.assertEqual(ask(term(10), term(11), term(20, 0), term(20, 0, 1), term(20, 2, 3)), [0, 1, 2, 3, 4])

    def test_same_term_again(self):
        told = ask(term(10), term(20, 0), term(20, 0, 1), term(10), term(20, 0), term(20, 0, 1), term(12))
        self.assertEqual(told, [0, 1, 2, 0, 1, 2, 3])

    def test_sign_alone_makes_another_term(self):
        self.assertEqual(ask(term(10), term(20, 0), term(21, 0), term(20, 0, 0), term(21, 0, 0)), [0, 1, 2, 3, 4])

    def test_order_of_parts_makes_another_term(self):
        self.assertEqual(ask(term(10), term(11), term(20, 0, 1), term(20, 1, 0), same(2, 3)), [0, 1, 2, 3, 0])

    def test_equal_but_not_that_very_term(self):
        told = ask(term(10), term(11), term(20, 0), join(0, 1), term(20, 1), same(2, 3), term(20, 1), term(20, 0))
        self.assertEqual(told, [0, 1, 2, 0, 3, 1, 3, 2])

    def test_equal_terms_keep_their_numbers(self):
        self.assertEqual(ask(term(10), term(11), join(0, 1), term(11), term(10), term(12)), [0, 1, 0, 1, 0, 2])

    def test_term_of_itself_as_part(self):
        self.assertEqual(ask(term(10), term(10, 0), term(10, 1, 1), same(0, 1), same(1, 2)), [0, 1, 2, 0, 0])

    def test_bounds_of_the_sign(self):
        told = ask(term(0), term(TOP_SIGN), term(MOST), term(MOST + 1), term(0), term(TOP_SIGN), same(0, 1))
        self.assertEqual(told, [0, 1, 2, 3, 0, 1, 0])

    def test_refused_for_a_wrong_first_part(self):
        for wrong in WRONG_NUMBERS + (1,):
            self.assertEqual(ask(term(10), term(20, wrong), term(20, wrong, 0), term(11)), [0, -2, -2, 1], wrong)

    def test_refused_for_a_wrong_second_part(self):
        for wrong in WRONG_NUMBERS + (1,):
            self.assertEqual(ask(term(10), term(20, 0, wrong), term(11)), [0, -2, 1], wrong)

    def test_refused_for_a_second_part_without_a_first(self):
        for second in WRONG_NUMBERS + (0, 1):
            self.assertEqual(ask(term(10), term(20, -1, second), term(11)), [0, -2, 1], second)

    def test_own_number_is_no_part(self):
        self.assertEqual(ask(term(20, 0), term(20, 0, 0), term(10), term(20, 0)), [-2, -2, 0, 1])

    def test_refusal_changes_nothing(self):
        wrong = (term(20, -1, 0), term(20, 3), term(20, 0, 3), term(20, -2, -2))
        before = ask(*THREE_SIGNS, part(0, 1), *LOOK_AT_THREE)[4:]
        after = ask(*THREE_SIGNS, part(0, 1), *wrong, *LOOK_AT_THREE)
        self.assertEqual(after[4:8], [-2, -2, -2, -2])
        self.assertEqual(after[8:], before)

    def test_512_terms_at_most(self):
        held = Terms()
        for sign in range(512):
            self.assertEqual(held.answer_term(sign, -1, -1), sign)
        self.assertEqual(held.answer_term(512, -1, -1), -2)
        self.assertEqual(held.answer_term(0, 511, -1), -2)
        self.assertEqual(held.answer_term(511, -1, -1), 511)
        self.assertEqual(held.answer_find(512, -1, -1), -1)
        self.assertEqual(held.answer_same(511, 512), -2)


class FindTest(unittest.TestCase):
    def test_terms_that_are_there(self):
        told = ask(term(10), term(20, 0), term(20, 0, 1), find(10), find(20, 0), find(20, 0, 1))
        self.assertEqual(told[3:], [0, 1, 2])

    def test_none_is_there(self):
        told = ask(find(10), term(10), term(20, 0), find(11), find(20), find(21, 0), find(20, 1), find(20, 0, 0))
        self.assertEqual(told, [-1, 0, 1, -1, -1, -1, -1, -1])

    def test_nothing_is_made(self):
        told = ask(term(10), find(11), find(20, 0), find(20, 0, 0), term(12), same(0, 2), find(11), find(20, 0))
        self.assertEqual(told, [0, -1, -1, -1, 1, -2, -1, -1])

    def test_equal_through_the_first_part(self):
        self.assertEqual(ask_last(term(10), term(11), term(20, 0), join(0, 1), find(20, 1)), 2)

    def test_equal_through_the_second_part(self):
        self.assertEqual(ask_last(term(10), term(11), term(20, 0, 0), join(0, 1), find(20, 0, 1)), 2)

    def test_equal_through_both_parts(self):
        self.assertEqual(ask_last(*FOUR_SIGNS, term(20, 0, 1), join(0, 2), join(1, 3), find(20, 2, 3)), 4)
        self.assertEqual(ask_last(*FOUR_SIGNS, term(20, 0, 1), join(0, 2), join(1, 3), find(20, 3, 2)), -1)

    def test_least_of_those_equal_by_a_saying(self):
        told = ask(*FOUR_SIGNS, join(3, 2), find(13), join(2, 1), find(13), join(0, 3), find(13))
        self.assertEqual(told[4:], [0, 2, 0, 1, 0, 0])

    def test_least_is_a_term_of_another_sign(self):
        told = ask(*THREE_SIGNS, term(20, 1), join(0, 3), join(1, 2), find(20, 2), find(20, 1), find(10))
        self.assertEqual(told[6:], [0, 0, 0])

    def test_other_sign_or_other_count_of_parts(self):
        told = ask(term(10), term(11), term(20, 0), join(0, 1), find(21, 1), find(20, 1, 1), find(20))
        self.assertEqual(told[4:], [-1, -1, -1])

    def test_difference_does_not_matter(self):
        self.assertEqual(ask(*THREE_SIGNS, part(0, 1), find(10), find(11))[4:], [0, 1])

    def test_bounds_of_the_sign(self):
        self.assertEqual(ask(term(TOP_SIGN), find(TOP_SIGN), find(0), term(0), find(0)), [0, 0, -1, 1, 1])

    def test_refusals(self):
        for wrong in WRONG_NUMBERS + (1,):
            told = ask(term(10), find(10, wrong), find(10, wrong, 0), find(10, 0, wrong), find(10, -1, wrong))
            self.assertEqual(told[1:], [-2, -2, -2, -2], wrong)
        self.assertEqual(ask(term(10), find(10, -1, 0), find(10, 0, -1)), [0, -2, -1])


class JoinTest(unittest.TestCase):
    def test_equal_both_ways(self):
        self.assertEqual(ask(*THREE_SIGNS, join(0, 1), same(0, 1), same(1, 0), same(0, 2))[3:], [0, 1, 1, 0])
        self.assertEqual(ask(*THREE_SIGNS, join(2, 0), same(0, 2), same(2, 0), same(1, 2))[3:], [0, 1, 1, 0])

    def test_equal_through_a_third(self):
        told = ask(*FOUR_SIGNS, join(0, 1), join(2, 1), same(0, 2), same(2, 0), same(0, 3))
        self.assertEqual(told[4:], [0, 0, 1, 1, 0])

    def test_two_groups_meet(self):
        told = ask(*FOUR_SIGNS, join(0, 1), join(2, 3), same(1, 2), join(3, 1), same(0, 2), same(0, 3), same(1, 2))
        self.assertEqual(told[4:], [0, 0, 0, 0, 1, 1, 1])

    def test_equal_as_it_is(self):
        told = ask(*THREE_SIGNS, join(0, 0), join(0, 1), join(0, 1), join(1, 0), join(1, 2), join(0, 2))
        self.assertEqual(told[3:], [0, 0, 0, 0, 0, 0])

    def test_equal_parts_make_equal_wholes(self):
        told = ask(*TWO_TOWERS[:4], same(2, 3), join(0, 1), same(2, 3))
        self.assertEqual(told[4:], [0, 0, 1])

    def test_over_several_steps(self):
        told = ask(*TWO_TOWERS, term(22, 4, 0), term(22, 5, 1), join(0, 1), same(4, 5), same(6, 7), same(4, 2))
        self.assertEqual(told[8:], [0, 1, 1, 0])

    def test_wholes_do_not_make_parts_equal(self):
        self.assertEqual(ask(*TWO_TOWERS, join(2, 3), same(0, 1), same(4, 5))[6:], [0, 0, 1])

    def test_both_parts_are_needed(self):
        told = ask(*FOUR_SIGNS, term(20, 0, 1), term(20, 2, 3), join(0, 2), same(4, 5), join(1, 3), same(4, 5))
        self.assertEqual(told[6:], [0, 0, 0, 1])

    def test_same_sign_and_as_many_parts_are_needed(self):
        told = ask(term(10), term(11), term(20, 0), term(21, 1), term(20, 0, 0), term(20, 1), join(0, 1),
                   same(2, 3), same(2, 4), same(2, 5), same(0, 2))
        self.assertEqual(told[7:], [0, 0, 1, 0])

    def test_wholes_made_after_the_join(self):
        told = ask(term(10), term(11), join(0, 1), term(20, 0), term(20, 1), same(2, 3), term(21, 3), term(21, 2),
                   same(4, 5), same(3, 4))
        self.assertEqual(told, [0, 1, 0, 2, 3, 1, 4, 5, 1, 0])

    def test_terms_equal_to_their_own_part(self):
        # f(f(f(a))) = a and f(f(f(f(f(a))))) = a make f(a) = a.
        tower = (term(10), term(20, 0), term(20, 1), term(20, 2), term(20, 3), term(20, 4))
        told = ask(*tower, join(3, 0), same(4, 1), same(5, 2), same(1, 0), join(5, 0), same(1, 0), same(2, 4))
        self.assertEqual(told[6:], [0, 1, 1, 0, 0, 1, 1])

    def test_wholes_of_a_merged_whole(self):
        # Joining a part with its own whole folds all that stands above.
        told = ask(term(10), term(20, 0), term(20, 1), join(1, 0), same(2, 0), term(20, 2), same(3, 0))
        self.assertEqual(told[3:], [0, 1, 3, 1])

    def test_not_where_they_were_said_to_differ(self):
        self.assertEqual(ask(*THREE_SIGNS, part(0, 1), join(0, 1), join(1, 0), same(0, 1))[3:], [0, -1, -1, 2])

    def test_not_where_equals_of_them_were_said_to_differ(self):
        told = ask(*FOUR_SIGNS, part(0, 1), join(0, 2), join(1, 3), join(2, 3), join(3, 2), same(2, 3))
        self.assertEqual(told[4:], [0, 0, 0, -1, -1, 2])

    def test_not_where_wholes_were_said_to_differ(self):
        told = ask(*TWO_TOWERS, part(4, 5), join(0, 1), same(0, 1), same(2, 3), same(4, 5), join(2, 3), same(2, 3))
        self.assertEqual(told[6:], [0, -1, 0, 0, 2, -1, 0])

    def test_parts_of_differing_wholes_are_not_known_to_differ(self):
        self.assertEqual(ask(*TWO_TOWERS, part(2, 3), same(0, 1), same(4, 5))[6:], [0, 0, 0])

    def test_differing_parts_leave_wholes_free(self):
        self.assertEqual(ask(*TWO_TOWERS, part(0, 1), join(2, 3), same(2, 3), same(4, 5))[6:], [0, 0, 1, 1])

    def test_nothing_changes_where_it_is_not_done(self):
        told = ask(*TWO_TOWERS, term(23, 0), term(23, 1), part(4, 5), join(0, 1), same(6, 7), find(20, 1), find(11),
                   part(0, 1), part(2, 3), part(6, 7))
        self.assertEqual(told[9:], [-1, 0, 3, 1, 0, 0, 0])

    def test_goes_on_after_one_that_is_not_done(self):
        told = ask(*FOUR_SIGNS, part(0, 1), join(0, 1), join(0, 2), join(1, 3), same(0, 2), same(1, 3), same(2, 3))
        self.assertEqual(told[4:], [0, -1, 0, 0, 1, 1, 2])

    def test_refusals(self):
        for wrong in WRONG_NUMBERS + (-1, 3):
            told = ask(*THREE_SIGNS, join(0, wrong), join(wrong, 0), join(wrong, wrong), same(0, 1), same(0, 2))
            self.assertEqual(told[3:], [-2, -2, -2, 0, 0], wrong)
        self.assertEqual(ask(join(0, 0)), [-2])

    def test_1024_sayings_at_most(self):
        # Each join that is kept makes two groups one, so that 512 terms never get there: the count is set by hand.
        held = Terms()
        for sign in range(4):
            held.answer_term(sign, -1, -1)
        self.assertEqual(held.answer_join(0, 1), 0)
        held.join_count = 1023
        self.assertEqual(held.answer_join(1, 2), 0)
        self.assertEqual(held.answer_join(2, 3), -1)
        self.assertEqual(held.answer_same(2, 3), 0)
        self.assertEqual(held.answer_join(0, 2), 0)
        self.assertEqual(held.answer_join(3, 3), 0)
        self.assertEqual(held.answer_join(0, 4), -2)

    def test_nothing_is_kept_of_what_is_equal_as_it_is(self):
        held = Terms()
        for sign in range(3):
            held.answer_term(sign, -1, -1)
        held.answer_join(0, 1)
        for turn in range(1100):
            self.assertEqual(held.answer_join(turn % 2, 1), 0)
        self.assertEqual(held.answer_join(1, 2), 0)
        self.assertEqual(held.answer_same(0, 2), 1)

    def test_a_tower_of_512_terms(self):
        held = Terms()
        held.answer_term(10, -1, -1)
        held.answer_term(11, -1, -1)
        for number in range(2, 512):
            self.assertEqual(held.answer_term(20, number - 2, -1), number)
        self.assertEqual(held.answer_part(508, 511), 0)
        self.assertEqual(held.answer_join(0, 1), 0)
        self.assertEqual(held.answer_same(510, 511), 1)
        self.assertEqual(held.answer_same(509, 510), 2)
        self.assertEqual(held.answer_same(0, 511), 0)


class PartTest(unittest.TestCase):
    def test_said(self):
        self.assertEqual(ask(*THREE_SIGNS, part(0, 1), part(2, 1), same(0, 1), same(1, 2))[3:], [0, 0, 2, 2])

    def test_said_again(self):
        self.assertEqual(ask(*THREE_SIGNS, part(0, 1), part(0, 1), part(1, 0), same(1, 0))[3:], [0, 0, 0, 2])

    def test_not_of_one_term(self):
        self.assertEqual(ask(term(10), part(0, 0), same(0, 0)), [0, -1, 1])

    def test_not_of_equal_terms(self):
        told = ask(*TWO_TOWERS, join(0, 1), part(0, 1), part(1, 0), part(2, 3), part(5, 4), same(0, 1), same(4, 5))
        self.assertEqual(told[6:], [0, -1, -1, -1, -1, 1, 1])

    def test_nothing_changes_where_it_is_not_done(self):
        told = ask(*THREE_SIGNS, join(0, 1), part(0, 1), part(0, 0), join(1, 2), same(0, 2), join(0, 1))
        self.assertEqual(told[3:], [0, -1, -1, 0, 1, 0])

    def test_terms_of_one_sign_may_differ(self):
        self.assertEqual(ask(*TWO_TOWERS, part(2, 3), same(2, 3), same(3, 2))[6:], [0, 2, 2])

    def test_refusals(self):
        for wrong in WRONG_NUMBERS + (-1, 3):
            told = ask(*THREE_SIGNS, part(0, wrong), part(wrong, 0), part(wrong, wrong), same(0, 1), same(0, 2))
            self.assertEqual(told[3:], [-2, -2, -2, 0, 0], wrong)
        self.assertEqual(ask(part(0, 0)), [-2])

    def test_1024_sayings_at_most(self):
        held = Terms()
        for sign in range(3):
            held.answer_term(sign, -1, -1)
        for turn in range(1024):
            self.assertEqual(held.answer_part(0, 1), 0)
        self.assertEqual(held.answer_part(0, 1), -1)
        self.assertEqual(held.answer_part(0, 2), -1)
        self.assertEqual(held.answer_part(0, 0), -1)
        self.assertEqual(held.answer_part(0, 3), -2)
        self.assertEqual(held.answer_same(0, 2), 0)
        self.assertEqual(held.answer_join(0, 2), 0)
        self.assertEqual(held.answer_same(1, 2), 2)


class SameTest(unittest.TestCase):
    def test_each_answer(self):
        told = ask(*FOUR_SIGNS, join(0, 1), part(0, 2), same(0, 1), same(0, 2), same(0, 3))
        self.assertEqual(told[6:], [1, 2, 0])

    def test_each_is_equal_to_itself(self):
        self.assertEqual(ask(*TWO_TOWERS[:3], part(0, 1), same(0, 0), same(1, 1), same(2, 2))[4:], [1, 1, 1])

    def test_different_through_equal_terms(self):
        told = ask(*FOUR_SIGNS, part(0, 1), join(2, 0), join(3, 1), same(2, 3), same(3, 2), same(0, 3), same(3, 0),
                   same(2, 1), same(1, 2), same(0, 1), same(1, 0))
        self.assertEqual(told[7:], [2] * 8)

    def test_different_through_equal_wholes(self):
        told = ask(*TWO_TOWERS[:4], term(12), part(3, 4), same(2, 4), join(1, 0), same(2, 4), same(4, 2))
        self.assertEqual(told[6:], [0, 0, 2, 2])

    def test_different_for_a_term_made_later(self):
        told = ask(term(10), term(11), term(12), term(20, 0), part(2, 3), join(0, 1), term(20, 1), same(4, 2))
        self.assertEqual(told[6:], [4, 2])

    def test_difference_does_not_go_through_a_third(self):
        told = ask(*THREE_SIGNS, part(0, 1), part(1, 2), same(0, 2), join(0, 2), same(0, 2), same(1, 2))
        self.assertEqual(told[3:], [0, 0, 0, 0, 1, 2])

    def test_both_terms_of_one_saying_are_needed(self):
        told = ask(*FOUR_SIGNS, part(0, 1), part(2, 3), same(0, 2), same(0, 3), same(1, 2), same(1, 3))
        self.assertEqual(told[6:], [0, 0, 0, 0])

    def test_asking_changes_nothing(self):
        asked = (same(0, 1), same(1, 2), same(0, 2))
        told = ask(*THREE_SIGNS, join(0, 1), part(1, 2), *asked, *asked)
        self.assertEqual(told[5:], [1, 2, 2, 1, 2, 2])

    def test_refusals(self):
        for wrong in WRONG_NUMBERS + (-1, 3):
            told = ask(*THREE_SIGNS, same(0, wrong), same(wrong, 0), same(wrong, wrong))
            self.assertEqual(told[3:], [-2, -2, -2], wrong)
        self.assertEqual(ask(same(0, 0), same(LEAST, MOST)), [-2, -2])


if __name__ == "__main__":
    unittest.main()
