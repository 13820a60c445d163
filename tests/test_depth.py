"""Promise 8: depth, with ordinary inputs, its edges and wrong inputs."""

import unittest

from equalterms.terms import Terms
from lines import (
    THREE_SIGNS, TWO_TOWERS, WRONG_NUMBERS, ask, ask_last, depth, find, init, join, part, same, term,
)


def tower(height):
    """0: a, then height terms, each with the one before it as its part."""
    return (term(10),) + tuple(term(20, number) for number in range(height))


def depths(count, *calls):
    return ask(*calls, *(depth(number) for number in range(count)))[len(calls):]


class DepthTest(unittest.TestCase):
    def test_without_parts(self):
        self.assertEqual(depths(3, *THREE_SIGNS), [1, 1, 1])

    def test_of_one_part(self):
        self.assertEqual(depths(6, *TWO_TOWERS), [1, 1, 2, 2, 3, 3])

    def test_of_two_parts_the_deepest_counts(self):
        line = (*tower(2), term(21, 0, 0), term(21, 0, 2), term(21, 2, 0), term(21, 1, 2), term(21, 2, 2), term(21, 4))
        self.assertEqual(depths(9, *line), [1, 2, 3, 2, 4, 4, 4, 4, 5])

    def test_a_part_is_equal_to_one_of_less_depth(self):
        # 4 is h(g(a)): where g(a) is equal to b, h(b) would do.
        self.assertEqual(depths(6, *TWO_TOWERS, join(2, 1)), [1, 1, 1, 2, 2, 3])
        self.assertEqual(depths(6, *TWO_TOWERS, join(1, 2)), [1, 1, 1, 2, 2, 3])

    def test_over_several_steps(self):
        line = (*tower(6), term(11))
        self.assertEqual(depths(8, *line), [1, 2, 3, 4, 5, 6, 7, 1])
        self.assertEqual(depths(8, *line, join(7, 2)), [1, 2, 1, 2, 3, 4, 5, 1])
        self.assertEqual(depths(8, *line, join(5, 7)), [1, 2, 3, 4, 5, 1, 2, 1])

    def test_less_twice_on_one_way(self):
        line = (*tower(6), term(11), term(22, 7), join(2, 8), join(5, 8))
        self.assertEqual(depths(9, *line)[:9], [1, 2, 2, 3, 4, 2, 3, 1, 2])

    def test_the_term_itself_is_equal_to_one_of_less_depth(self):
        self.assertEqual(depths(6, *TWO_TOWERS, join(4, 1)), [1, 1, 2, 2, 1, 3])
        self.assertEqual(depths(6, *TWO_TOWERS, join(4, 3)), [1, 1, 2, 2, 2, 3])

    def test_the_least_of_three_equal_terms(self):
        line = (*tower(3), term(21, 0), term(22, 2))
        for joins in ((join(3, 4), join(5, 3)), (join(5, 4), join(3, 5)), (join(5, 3), join(4, 5))):
            self.assertEqual(depths(6, *line, *joins), [1, 2, 3, 2, 2, 2], joins)

    def test_only_the_deepest_part_lowers_the_whole(self):
        # 4 is f(g(g(a)), g(a)), 3 a sign without parts.
        line = (*tower(2), term(11), term(21, 2, 1))
        self.assertEqual(depths(5, *line), [1, 2, 3, 1, 4])
        self.assertEqual(depths(5, *line, join(1, 3)), [1, 1, 2, 1, 3])
        self.assertEqual(depths(5, *line, join(2, 3)), [1, 2, 1, 1, 3])
        self.assertEqual(depths(5, *line, join(2, 3), join(1, 3)), [1, 1, 1, 1, 2])

    def test_both_parts_are_taken_as_equal_ones(self):
        line = (*tower(2), term(11), term(21, 2, 1), term(21, 1, 2), term(21, 2, 2))
        self.assertEqual(depths(7, *line, join(2, 3)), [1, 2, 1, 1, 3, 3, 2])

    def test_equal_through_parts(self):
        # g(a) and g(b) are equal where a and b are; g(b) was said to be c.
        line = (*TWO_TOWERS, term(12), join(3, 6))
        self.assertEqual(depths(7, *line), [1, 1, 2, 1, 3, 2, 1])
        self.assertEqual(depths(7, *line, join(0, 1)), [1, 1, 1, 1, 2, 2, 1])

    def test_equal_to_its_own_part(self):
        self.assertEqual(depths(3, *tower(2), join(1, 0)), [1, 1, 1])
        self.assertEqual(depths(4, *tower(3), join(2, 1)), [1, 2, 2, 2])

    def test_equal_to_a_part_of_a_part(self):
        self.assertEqual(depths(5, *tower(4), join(2, 0)), [1, 2, 1, 2, 1])
        self.assertEqual(depths(6, *tower(5), join(3, 1)), [1, 2, 3, 2, 3, 2])

    def test_equal_to_its_own_second_part(self):
        self.assertEqual(depths(4, *tower(2), term(21, 0, 2), join(3, 2)), [1, 2, 3, 3])
        self.assertEqual(depths(4, *tower(2), term(21, 0, 1), join(3, 1)), [1, 2, 3, 2])

    def test_a_whole_with_a_lesser_number_than_what_lowers_it(self):
        # What is made later lowers what was made before, against the order of the numbers.
        line = (*tower(4), term(11), term(21, 5), term(22, 4), term(23, 7))
        self.assertEqual(depths(9, *line), [1, 2, 3, 4, 5, 1, 2, 6, 7])
        self.assertEqual(depths(9, *line, join(8, 0)), [1, 2, 3, 4, 5, 1, 2, 6, 1])
        self.assertEqual(depths(9, *line, join(3, 6), join(0, 5)), [1, 2, 3, 2, 3, 1, 2, 4, 5])

    def test_lowered_against_the_order_of_numbers_step_by_step(self):
        # Ten deep terms p (12 to 21); then ten terms (22 to 31), each with the next p as its part, the last without
        # parts. Where each p is equal to its fellow of the second ten, the last p lowers the one before it, and so on.
        deep = tuple(term(30 + step, 11) for step in range(10))
        fellows = tuple(term(50 + step, 13 + step) for step in range(9)) + (term(59),)
        line = (*tower(11), *deep, *fellows)
        self.assertEqual(depths(32, *line)[12:], [13] * 10 + [14] * 9 + [1])
        joins = [join(12 + step, 22 + step) for step in range(10)]
        self.assertEqual(depths(32, *line, *joins)[12:], list(range(10, 0, -1)) * 2)
        self.assertEqual(depths(32, *line, *reversed(joins))[12:], list(range(10, 0, -1)) * 2)

    def test_a_term_made_later_lowers_nothing_by_itself(self):
        told = ask(*tower(3), depth(3), term(11), term(21, 4), depth(3), join(5, 3), depth(3), term(20, 3), depth(6))
        self.assertEqual(told[4:], [4, 4, 5, 4, 0, 2, 6, 3])

    def test_a_long_chain(self):
        chain = tower(39)
        self.assertEqual(depths(40, *chain), list(range(1, 41)))
        self.assertEqual(depths(40, *chain, join(39, 0)), list(range(1, 40)) + [1])
        self.assertEqual(depths(40, *chain, join(20, 0)), [1 + number % 20 for number in range(40)])

    def test_a_chain_of_512_terms(self):
        held = Terms()
        held.answer_term(10, -1, -1)
        for number in range(1, 512):
            held.answer_term(20, number - 1, number - 1)
        self.assertEqual([held.answer_depth(number) for number in (0, 1, 2, 255, 510, 511)], [1, 2, 3, 256, 511, 512])
        self.assertEqual(held.answer_join(500, 0), 0)
        self.assertEqual([held.answer_depth(number) for number in (499, 500, 501, 511)], [500, 1, 2, 12])
        self.assertEqual(held.answer_depth(512), -2)

    def test_difference_does_not_matter(self):
        self.assertEqual(depths(6, *TWO_TOWERS, part(0, 1), part(2, 3), part(4, 5)), [1, 1, 2, 2, 3, 3])

    def test_a_join_that_is_not_done_lowers_nothing(self):
        self.assertEqual(depths(6, *TWO_TOWERS, part(2, 1), join(2, 1)), [1, 1, 2, 2, 3, 3])

    def test_asking_changes_nothing(self):
        line = (*TWO_TOWERS, join(2, 1), part(0, 1))
        asked = (depth(5), depth(4), depth(-1), depth(9))
        looked_at = (same(0, 1), same(2, 1), same(4, 5), find(20, 0), find(21, 1), find(22), depth(5))
        self.assertEqual(ask(*line, *asked, *asked, *looked_at)[16:], ask(*line, *looked_at)[8:])

    def test_nothing_is_left_by_init(self):
        self.assertEqual(ask(*tower(2), init(), depth(0), term(11), depth(0), depth(1))[3:], [0, -2, 0, 1, -2])

    def test_refusals(self):
        for wrong in WRONG_NUMBERS + (-1, 3):
            self.assertEqual(ask(*tower(2), depth(wrong), depth(2))[3:], [-2, 3], wrong)
        self.assertEqual(ask_last(depth(0)), -2)
        self.assertEqual(ask_last(depth(-1)), -2)


if __name__ == "__main__":
    unittest.main()
