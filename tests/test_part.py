"""Promise 2: part."""

import random
import unittest

from agreed.terms import part
from tests.against_plain import AgainstPlain
from tests.plain_reckoning import (
    can_be_had, mosts, nothing_is_better_for_both, of_a_wish, part_by_pairs, thirds_and_such,
)
from tests.sample_corners import check_form, drawn, flat, had_by, most_corners_with_many_bends


def part_of(*corners):
    return part(len(corners), flat(corners))


class Ordinary(unittest.TestCase):
    def test_one_corner(self):
        self.assertEqual(part(1, [5, 7]), [0, 5, 1, 7, 1])
        self.assertEqual(part_of((3, 4)), [0, 3, 1, 4, 1])

    def test_mixture_of_two(self):
        self.assertEqual(part(2, [2, 0, 0, 1]), [0, 1, 1, 1, 2])
        # 3/5 of 4 and of 3, along first + 2 second = 6.
        self.assertEqual(part(2, [4, 1, 0, 3]), [0, 12, 5, 9, 5])

    def test_inside_a_line_in_lowest_terms(self):
        # 44/68 of 8 and of 6, along 4 first + 6 second = 44.
        self.assertEqual(part_of((2, 6), (8, 2)), [0, 88, 17, 66, 17])
        # 13/22 of 10 and of 6, on the middle line of three, along first + 2 second = 13.
        self.assertEqual(part_of((0, 6), (3, 5), (9, 2), (10, 0)), [0, 65, 11, 39, 11])

    def test_on_the_first_line_and_on_the_last(self):
        # 90/110 of 10 and of 10, along 2 first + 9 second = 90, then 9 first + 2 second = 90.
        self.assertEqual(part_of((0, 10), (9, 8), (10, 0)), [0, 90, 11, 90, 11])
        self.assertEqual(part_of((0, 10), (8, 9), (10, 0)), [0, 90, 11, 90, 11])

    def test_at_a_corner_where_two_lines_meet(self):
        self.assertEqual(part_of((0, 5), (4, 4), (5, 0)), [0, 4, 1, 4, 1])
        # 3/4 of 4 and of 8.
        self.assertEqual(part_of((0, 8), (3, 6), (4, 0)), [0, 3, 1, 6, 1])
        self.assertEqual(part(3, [10, 1, 9, 9, 1, 10]), [0, 9, 1, 9, 1])

    def test_not_where_the_product_is_greatest(self):
        # 38/52 of 6 and of 8, along 6 first + 2 second = 38; the product is greatest at 4 and 7.
        self.assertEqual(part_of((0, 8), (4, 7), (6, 1)), [0, 57, 13, 76, 13])

    def test_a_corner_that_only_raises_the_most_of_one(self):
        self.assertEqual(part_of((6, 6)), [0, 6, 1, 6, 1])
        # 60/84 of 10 and of 6, along 6 first + 4 second = 60, then the two changed about.
        self.assertEqual(part_of((6, 6), (10, 0)), [0, 50, 7, 30, 7])
        self.assertEqual(part_of((6, 6), (0, 10)), [0, 30, 7, 50, 7])
        self.assertEqual(part_of((6, 6), (10, 0), (0, 10)), [0, 6, 1, 6, 1])

    def test_the_two_changed_about(self):
        self.assertEqual(part_of((6, 2), (2, 8)), [0, 66, 17, 88, 17])
        self.assertEqual(part_of((8, 0), (7, 4), (1, 6)), [0, 76, 13, 57, 13])

    def test_any_order(self):
        source = random.Random(21)
        corners = [(0, 6), (3, 5), (9, 2), (10, 0), (4, 4), (1, 1)]
        for turn in range(50):
            source.shuffle(corners)
            self.assertEqual(part_of(*corners), [0, 65, 11, 39, 11])


class Edges(unittest.TestCase):
    def test_less_than_a_mixture(self):
        self.assertEqual(part(2, [5, 7, 2, 3]), [0, 5, 1, 7, 1])
        self.assertEqual(part(2, [2, 3, 5, 7]), [0, 5, 1, 7, 1])
        # Each mixture but the corner with all of both mosts is less for one of the two.
        self.assertEqual(part_of((5, 1), (5, 7), (0, 7)), [0, 5, 1, 7, 1])

    def test_most_corners(self):
        self.assertEqual(part(256, [1, 1] * 256), [0, 1, 1, 1, 1])
        self.assertEqual(part(256, [0, 0] * 254 + [2, 0, 0, 1]), [0, 1, 1, 1, 2])
        self.assertEqual(part(256, [4, 1] + [0, 0] * 254 + [0, 3]), [0, 12, 5, 9, 5])

    def test_most_corners_with_very_many_bends(self):
        p = most_corners_with_many_bends(random.Random(22))
        self.assertEqual(part(256, p), [0] + part_by_pairs(p))

    def test_least_and_most_numbers(self):
        self.assertEqual(part_of((1000, 1000)), [0, 1000, 1, 1000, 1])
        self.assertEqual(part_of((1000, 0), (0, 1000)), [0, 500, 1, 500, 1])
        self.assertEqual(part_of((1000, 1), (1, 1000)), [0, 1001, 2, 1001, 2])
        self.assertEqual(part_of((1, 1)), [0, 1, 1, 1, 1])
        self.assertEqual(part_of((1, 1000)), [0, 1, 1, 1000, 1])
        self.assertEqual(part_of((0, 1), (1000, 0)), [0, 500, 1, 1, 2])

    def test_large_fractions(self):
        # 998996/1994002 of 999 and of 1000, along 998 first + 997 second = 998996.
        self.assertEqual(part_of((2, 1000), (999, 2)), [0, 498998502, 997001, 499498000, 997001])

    def test_corners_more_than_once(self):
        self.assertEqual(part_of((4, 1), (0, 3), (4, 1), (0, 3), (0, 3)), [0, 12, 5, 9, 5])
        self.assertEqual(part_of((3, 4), (3, 4)), [0, 3, 1, 4, 1])

    def test_corners_within_what_others_give(self):
        self.assertEqual(part_of((4, 1), (1, 2), (0, 3), (1, 1), (3, 1)), [0, 12, 5, 9, 5])

    def test_several_corners_in_one_row(self):
        self.assertEqual(part_of((0, 4), (3, 2), (6, 0)), [0, 3, 1, 2, 1])
        self.assertEqual(part_of((0, 5), (1, 4), (2, 3), (3, 2), (4, 1), (5, 0)), [0, 5, 2, 5, 2])
        self.assertEqual(part_of((1, 1), (2, 2), (3, 3)), [0, 3, 1, 3, 1])
        self.assertEqual(part_of((4, 1), (2, 2), (0, 3)), [0, 12, 5, 9, 5])

    def test_same_number_for_the_first(self):
        self.assertEqual(part_of((4, 1), (4, 6), (4, 3)), [0, 4, 1, 6, 1])
        self.assertEqual(part_of((0, 3), (0, 5), (0, 1), (3, 0)), [0, 3, 2, 5, 2])
        self.assertEqual(part_of((4, 0), (4, 1), (0, 2), (0, 3)), [0, 12, 5, 9, 5])

    def test_same_number_for_the_second(self):
        self.assertEqual(part_of((1, 4), (6, 4), (3, 4)), [0, 6, 1, 4, 1])
        self.assertEqual(part_of((3, 0), (2, 0), (0, 5), (1, 0)), [0, 3, 2, 5, 2])
        self.assertEqual(part_of((2, 1), (4, 1), (0, 3), (3, 1)), [0, 12, 5, 9, 5])

    def test_nothing_for_one_or_both(self):
        self.assertEqual(part_of((0, 0), (3, 4)), [0, 3, 1, 4, 1])
        self.assertEqual(part_of((3, 4), (0, 0), (0, 4), (3, 0)), [0, 3, 1, 4, 1])

    def test_something_for_each_in_different_corners_only(self):
        self.assertEqual(part_of((7, 0), (0, 0), (0, 1)), [0, 7, 2, 1, 2])
        self.assertEqual(part_of((0, 9), (0, 2), (4, 0), (5, 0)), [0, 5, 2, 9, 2])


class AgainstThePlainReckoning(AgainstPlain, unittest.TestCase):
    def answer(self, k, p):
        return part(k, p)

    def plain(self, p):
        return part_by_pairs(p)

    def test_no_mixture_of_three_gives_both_a_greater_part(self):
        source = random.Random(26)
        for turn in range(40):
            k, p = drawn(source, 4, 9)
            greatest = of_a_wish(had_by(part(k, p)), mosts(p))
            for had in thirds_and_such(p, 6):
                self.assertLessEqual(of_a_wish(had, mosts(p)), greatest, (k, p))

    def test_the_words_themselves_with_most_corners(self):
        source = random.Random(27)
        for turn in range(20):
            most_number = source.choice((3, 40, 1000))
            p = [source.randint(0, most_number) for place in range(512)]
            answer = part(256, p)
            check_form(self, answer)
            first, second = had_by(answer)
            most_first, most_second = mosts(p)
            self.assertEqual(first / most_first, second / most_second)
            self.assertTrue(can_be_had(p, (first, second)))
            self.assertTrue(nothing_is_better_for_both(p, (first, second)))


if __name__ == "__main__":
    unittest.main()
