"""Promise 1: nash."""

import random
import unittest

from agreed.terms import nash
from tests.against_plain import AgainstPlain
from tests.plain_reckoning import can_be_had, corners_of, nash_by_pairs, thirds_and_such
from tests.sample_corners import check_form, drawn, flat, had_by, many_bends, most_corners_with_many_bends


def nash_of(*corners):
    return nash(len(corners), flat(corners))


class Ordinary(unittest.TestCase):
    def test_one_corner(self):
        self.assertEqual(nash_of((3, 4)), [0, 3, 1, 4, 1])

    def test_mixture_of_two(self):
        self.assertEqual(nash(2, [6, 0, 0, 4]), [0, 3, 1, 2, 1])
        self.assertEqual(nash(2, [3, 0, 0, 5]), [0, 3, 2, 5, 2])

    def test_inside_a_part_in_lowest_terms(self):
        # Along 4 first + 6 second = 44 the product is greatest at 44/8 and 44/12.
        self.assertEqual(nash_of((2, 6), (8, 2)), [0, 11, 2, 11, 3])
        # The middle part of three, along first + 2 second = 13.
        self.assertEqual(nash_of((0, 6), (3, 5), (9, 2), (10, 0)), [0, 13, 2, 13, 4])

    def test_at_a_corner_where_two_parts_meet(self):
        self.assertEqual(nash_of((0, 5), (4, 4), (5, 0)), [0, 4, 1, 4, 1])
        self.assertEqual(nash_of((0, 8), (4, 7), (6, 1)), [0, 4, 1, 7, 1])

    def test_at_either_end(self):
        self.assertEqual(nash_of((9, 5), (10, 1)), [0, 9, 1, 5, 1])
        self.assertEqual(nash_of((1, 10), (5, 9)), [0, 5, 1, 9, 1])

    def test_best_of_a_line_just_at_its_end(self):
        # first + second = 8 is best at 4 and 4, which is the left end, then the right end.
        self.assertEqual(nash_of((4, 4), (7, 1)), [0, 4, 1, 4, 1])
        self.assertEqual(nash_of((1, 7), (4, 4)), [0, 4, 1, 4, 1])

    def test_the_two_changed_about(self):
        self.assertEqual(nash_of((2, 6), (8, 2)), [0, 11, 2, 11, 3])
        self.assertEqual(nash_of((6, 2), (2, 8)), [0, 11, 3, 11, 2])

    def test_any_order(self):
        source = random.Random(11)
        corners = [(0, 6), (3, 5), (9, 2), (10, 0), (4, 4), (1, 1)]
        for turn in range(50):
            source.shuffle(corners)
            self.assertEqual(nash_of(*corners), [0, 13, 2, 13, 4])


class Edges(unittest.TestCase):
    def test_less_than_a_mixture(self):
        self.assertEqual(nash(2, [5, 7, 2, 3]), [0, 5, 1, 7, 1])
        self.assertEqual(nash(2, [2, 3, 5, 7]), [0, 5, 1, 7, 1])

    def test_most_corners(self):
        self.assertEqual(nash(256, [1, 1] * 256), [0, 1, 1, 1, 1])
        self.assertEqual(nash(256, [0, 0] * 254 + [6, 0, 0, 4]), [0, 3, 1, 2, 1])
        self.assertEqual(nash(256, [6, 0] + [0, 0] * 254 + [0, 4]), [0, 3, 1, 2, 1])

    def test_most_corners_with_very_many_bends(self):
        self.assertGreater(len(many_bends()), 100)
        p = most_corners_with_many_bends(random.Random(12))
        self.assertEqual(nash(256, p), [0] + nash_by_pairs(p))

    def test_least_and_most_numbers(self):
        self.assertEqual(nash_of((1000, 1000)), [0, 1000, 1, 1000, 1])
        self.assertEqual(nash_of((1000, 0), (0, 1000)), [0, 500, 1, 500, 1])
        self.assertEqual(nash_of((1, 1)), [0, 1, 1, 1, 1])
        self.assertEqual(nash_of((1, 1000)), [0, 1, 1, 1000, 1])
        self.assertEqual(nash_of((0, 1), (1000, 0)), [0, 500, 1, 1, 2])

    def test_large_fractions(self):
        # Along 998 first + 997 second = 998996.
        self.assertEqual(nash_of((2, 1000), (999, 2)), [0, 249749, 499, 499498, 997])

    def test_corners_more_than_once(self):
        self.assertEqual(nash_of((6, 0), (0, 4), (6, 0), (0, 4), (0, 4)), [0, 3, 1, 2, 1])
        self.assertEqual(nash_of((3, 4), (3, 4)), [0, 3, 1, 4, 1])

    def test_corners_within_what_others_give(self):
        self.assertEqual(nash_of((6, 0), (2, 2), (0, 4), (1, 1), (3, 1)), [0, 3, 1, 2, 1])

    def test_several_corners_in_one_row(self):
        self.assertEqual(nash_of((0, 4), (3, 2), (6, 0)), [0, 3, 1, 2, 1])
        self.assertEqual(nash_of((0, 5), (1, 4), (2, 3), (3, 2), (4, 1), (5, 0)), [0, 5, 2, 5, 2])
        self.assertEqual(nash_of((1, 1), (2, 2), (3, 3)), [0, 3, 1, 3, 1])

    def test_same_number_for_the_first(self):
        self.assertEqual(nash_of((4, 1), (4, 6), (4, 3)), [0, 4, 1, 6, 1])
        self.assertEqual(nash_of((0, 3), (0, 5), (0, 1), (3, 0)), [0, 3, 2, 5, 2])

    def test_same_number_for_the_second(self):
        self.assertEqual(nash_of((1, 4), (6, 4), (3, 4)), [0, 6, 1, 4, 1])
        self.assertEqual(nash_of((3, 0), (2, 0), (0, 5), (1, 0)), [0, 3, 2, 5, 2])

    def test_nothing_for_one_or_both(self):
        self.assertEqual(nash_of((0, 0), (3, 4)), [0, 3, 1, 4, 1])
        self.assertEqual(nash_of((3, 4), (0, 0), (0, 4), (3, 0)), [0, 3, 1, 4, 1])
        self.assertEqual(nash_of((7, 0), (0, 0), (0, 1)), [0, 7, 2, 1, 2])


class AgainstThePlainReckoning(AgainstPlain, unittest.TestCase):
    def answer(self, k, p):
        return nash(k, p)

    def plain(self, p):
        return nash_by_pairs(p)

    def test_no_mixture_of_three_is_better(self):
        source = random.Random(4)
        for turn in range(40):
            k, p = drawn(source, 4, 9)
            first, second = had_by(nash(k, p))
            for had in thirds_and_such(p, 6):
                self.assertLessEqual(had[0] * had[1], first * second, (k, p))

    def test_can_be_had_and_nothing_is_better_with_most_corners(self):
        # If u / first + v / second is at most 2 for every corner, it is so for every mixture,
        # and then no mixture's u * v is above first * second.
        source = random.Random(5)
        for turn in range(20):
            p = [source.randint(0, 1000) for place in range(512)]
            answer = nash(256, p)
            check_form(self, answer)
            first, second = had_by(answer)
            self.assertTrue(can_be_had(p, (first, second)))
            for u, v in corners_of(p):
                self.assertLessEqual(u * second + v * first, 2 * first * second)


if __name__ == "__main__":
    unittest.main()
