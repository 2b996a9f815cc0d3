"""Promise 3: same."""

import random
import unittest

from agreed.terms import same
from tests.against_plain import AgainstPlain
from tests.plain_reckoning import can_be_had, nothing_is_better_for_both, same_by_pairs, thirds_and_such
from tests.sample_corners import check_form, drawn, flat, had_by, most_corners_with_many_bends


def same_of(*corners):
    return same(len(corners), flat(corners))


def both(upper, lower):
    return [0, upper, lower, upper, lower]


class Ordinary(unittest.TestCase):
    def test_one_corner(self):
        self.assertEqual(same_of((4, 4)), both(4, 1))
        self.assertEqual(same(1, [5, 7]), [0, 5, 1, 5, 1])
        self.assertEqual(same(1, [7, 5]), [0, 5, 1, 5, 1])

    def test_mixture_of_two(self):
        self.assertEqual(same(2, [2, 0, 0, 1]), [0, 2, 3, 2, 3])
        self.assertEqual(same(2, [4, 1, 0, 3]), [0, 2, 1, 2, 1])
        self.assertEqual(same(2, [1000, 0, 0, 999]), [0, 999000, 1999, 999000, 1999])

    def test_inside_a_line_in_lowest_terms(self):
        # 44/10, along 4 first + 6 second = 44.
        self.assertEqual(same_of((2, 6), (8, 2)), both(22, 5))
        # On the middle line of three, along first + 2 second = 13.
        self.assertEqual(same_of((0, 6), (3, 5), (9, 2), (10, 0)), both(13, 3))

    def test_on_the_first_line_and_on_the_last(self):
        # Along 2 first + 9 second = 90, then 9 first + 2 second = 90.
        self.assertEqual(same_of((0, 10), (9, 8), (10, 0)), both(90, 11))
        self.assertEqual(same_of((0, 10), (8, 9), (10, 0)), both(90, 11))

    def test_at_a_corner_where_two_lines_meet(self):
        self.assertEqual(same_of((0, 5), (4, 4), (5, 0)), both(4, 1))
        self.assertEqual(same_of((9, 2), (6, 6), (2, 9)), both(6, 1))
        self.assertEqual(same(3, [10, 1, 9, 9, 1, 10]), [0, 9, 1, 9, 1])

    def test_not_the_same_part_and_not_the_greatest_product(self):
        # 24/7, along 6 first + second = 24; 3 and 6 are the same part of their most, and the product is greatest there.
        self.assertEqual(same_of((0, 8), (3, 6), (4, 0)), both(24, 7))

    def test_the_two_changed_about(self):
        self.assertEqual(same_of((6, 2), (2, 8)), both(22, 5))
        self.assertEqual(same_of((8, 0), (6, 3), (0, 4)), both(24, 7))

    def test_any_order(self):
        source = random.Random(31)
        corners = [(0, 6), (3, 5), (9, 2), (10, 0), (4, 4), (1, 1)]
        for turn in range(50):
            source.shuffle(corners)
            self.assertEqual(same_of(*corners), both(13, 3))


class LessThanAMixture(unittest.TestCase):
    def test_below_a_corner(self):
        self.assertEqual(same(2, [5, 7, 2, 3]), [0, 5, 1, 5, 1])
        self.assertEqual(same_of((2, 9), (5, 7)), both(5, 1))
        self.assertEqual(same_of((1, 1000), (2, 999)), both(2, 1))

    def test_beside_a_corner(self):
        self.assertEqual(same(2, [5, 0, 3, 2]), [0, 2, 1, 2, 1])
        self.assertEqual(same(2, [0, 3, 2, 3]), [0, 2, 1, 2, 1])
        self.assertEqual(same_of((7, 5), (9, 2)), both(5, 1))
        self.assertEqual(same_of((1000, 1), (999, 2)), both(2, 1))

    def test_just_at_the_end_of_what_cannot_be_bettered(self):
        self.assertEqual(same_of((5, 5), (9, 2)), both(5, 1))
        self.assertEqual(same_of((5, 5), (2, 9)), both(5, 1))

    def test_just_inside_the_end(self):
        # Along 3 first + 5 second = 42, which starts at 4 and 6; then 5 first + 3 second = 42, which ends at 6 and 4.
        self.assertEqual(same_of((4, 6), (9, 3)), both(21, 4))
        self.assertEqual(same_of((6, 4), (3, 9)), both(21, 4))


class Edges(unittest.TestCase):
    def test_most_corners(self):
        self.assertEqual(same(256, [1, 1] * 256), both(1, 1))
        self.assertEqual(same(256, [3, 4] * 256), both(3, 1))
        self.assertEqual(same(256, [0, 0] * 254 + [2, 0, 0, 1]), both(2, 3))
        self.assertEqual(same(256, [4, 1] + [0, 0] * 254 + [0, 3]), both(2, 1))

    def test_most_corners_with_very_many_bends(self):
        p = most_corners_with_many_bends(random.Random(32))
        self.assertEqual(same(256, p), [0] + same_by_pairs(p))

    def test_least_and_most_numbers(self):
        self.assertEqual(same_of((1000, 1000)), both(1000, 1))
        self.assertEqual(same_of((1000, 0), (0, 1000)), both(500, 1))
        self.assertEqual(same_of((1000, 1), (1, 1000)), both(1001, 2))
        self.assertEqual(same_of((1, 1)), both(1, 1))
        self.assertEqual(same_of((1, 1000)), both(1, 1))
        self.assertEqual(same_of((1000, 1)), both(1, 1))
        self.assertEqual(same_of((0, 1), (1000, 0)), both(1000, 1001))

    def test_large_fractions(self):
        # Along 998 first + 997 second = 998996.
        self.assertEqual(same_of((2, 1000), (999, 2)), both(998996, 1995))

    def test_corners_more_than_once(self):
        self.assertEqual(same_of((2, 0), (0, 1), (2, 0), (0, 1), (0, 1)), both(2, 3))
        self.assertEqual(same_of((5, 7), (5, 7)), both(5, 1))

    def test_corners_within_what_others_give(self):
        self.assertEqual(same_of((2, 6), (3, 4), (8, 2), (1, 1), (4, 4)), both(22, 5))

    def test_several_corners_in_one_row(self):
        self.assertEqual(same_of((0, 4), (3, 2), (6, 0)), both(12, 5))
        self.assertEqual(same_of((0, 5), (1, 4), (2, 3), (3, 2), (4, 1), (5, 0)), both(5, 2))
        self.assertEqual(same_of((1, 1), (2, 2), (3, 3)), both(3, 1))
        self.assertEqual(same_of((4, 1), (2, 2), (0, 3)), both(2, 1))

    def test_same_number_for_the_first(self):
        self.assertEqual(same_of((4, 1), (4, 6), (4, 3)), both(4, 1))
        self.assertEqual(same_of((0, 3), (0, 5), (0, 1), (3, 0)), both(15, 8))

    def test_same_number_for_the_second(self):
        self.assertEqual(same_of((1, 4), (6, 4), (3, 4)), both(4, 1))
        self.assertEqual(same_of((3, 0), (2, 0), (0, 5), (1, 0)), both(15, 8))

    def test_nothing_for_one_or_both(self):
        self.assertEqual(same_of((0, 0), (3, 4)), both(3, 1))
        self.assertEqual(same_of((3, 4), (0, 0), (0, 4), (3, 0)), both(3, 1))

    def test_something_for_each_in_different_corners_only(self):
        self.assertEqual(same_of((7, 0), (0, 0), (0, 1)), both(7, 8))
        self.assertEqual(same_of((0, 9), (0, 2), (4, 0), (5, 0)), both(45, 14))


class AgainstThePlainReckoning(AgainstPlain, unittest.TestCase):
    def answer(self, k, p):
        return same(k, p)

    def plain(self, p):
        return same_by_pairs(p)

    def test_no_mixture_of_three_gives_both_more(self):
        source = random.Random(36)
        for turn in range(40):
            k, p = drawn(source, 4, 9)
            greatest = had_by(same(k, p))[0]
            for had in thirds_and_such(p, 6):
                self.assertLessEqual(min(had), greatest, (k, p))

    def test_the_words_themselves_with_most_corners(self):
        source = random.Random(37)
        for turn in range(30):
            most_first = source.choice((3, 40, 1000))
            most_second = source.choice((3, 40, 1000))
            p = flat((source.randint(0, most_first), source.randint(0, most_second)) for place in range(256))
            answer = same(256, p)
            check_form(self, answer)
            first, second = had_by(answer)
            self.assertEqual(first, second)
            self.assertTrue(can_be_had(p, (first, second)))
            self.assertTrue(nothing_is_better_for_both(p, (first, second)))


if __name__ == "__main__":
    unittest.main()
