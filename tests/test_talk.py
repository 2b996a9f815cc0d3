"""Promise 4: talk."""

import random
import unittest
from fractions import Fraction

from agreed.terms import talk
from tests.against_plain import OverManyCorners
from tests.plain_reckoning import can_be_had, nothing_is_better_for_both
from tests.sample_corners import (
    check_form, drawn, drawn_part, flat, many_bends, most_corners_with_many_bends, offered_by,
)

HALF = (1, 2)
EVERY_SMALL_PART = [(upper, lower) for lower in range(2, 6) for upper in range(1, lower)]


def talk_of(first_part, second_part, *corners):
    return talk(len(corners), *first_part, *second_part, flat(corners))


def check_words(case, first_part, second_part, p):
    """That the answer is just what the document's words ask, which no other is.

    If the first's offer gave the first more, the second would have less in both offers. But in the second's offer the
    second would lose less, and of that only a part counts, so the second's share could not hold as well.
    """
    told = (first_part, second_part, p)
    answer = talk(len(p) // 2, *first_part, *second_part, p)
    check_form(case, answer, 4)
    one, other = offered_by(answer)
    for offer in (one, other):
        case.assertTrue(can_be_had(p, offer), told)
        case.assertTrue(nothing_is_better_for_both(p, offer), told)
    case.assertEqual(other[0], Fraction(*first_part) * one[0], told)
    case.assertEqual(one[1], Fraction(*second_part) * other[1], told)


class Ordinary(unittest.TestCase):
    def test_both_on_the_one_line(self):
        self.assertEqual(talk(2, 1, 2, 1, 2, [1, 0, 0, 1]), [0, 2, 3, 1, 3, 1, 3, 2, 3])
        self.assertEqual(talk(2, 1, 2, 1, 3, [5, 0, 0, 10]), [0, 4, 1, 2, 1, 2, 1, 6, 1])

    def test_each_part_stands_for_its_own(self):
        # 4 + 6 = 10 and 1 + 9 = 10: 1 is 1/4 of 4, 6 is 2/3 of 9; then the two changed about.
        self.assertEqual(talk_of((1, 4), (2, 3), (10, 0), (0, 10)), [0, 4, 1, 6, 1, 1, 1, 9, 1])
        self.assertEqual(talk_of((2, 3), (1, 4), (10, 0), (0, 10)), [0, 9, 1, 1, 1, 6, 1, 4, 1])

    def test_parts_with_common_divisors(self):
        self.assertEqual(talk(2, 2, 4, 3, 6, [1, 0, 0, 1]), [0, 2, 3, 1, 3, 1, 3, 2, 3])
        self.assertEqual(talk_of((250, 1000), (666, 999), (10, 0), (0, 10)), [0, 4, 1, 6, 1, 1, 1, 9, 1])

    def test_on_different_lines(self):
        self.assertEqual(talk(3, 1, 2, 1, 2, [10, 1, 9, 9, 1, 10]), [0, 162, 17, 81, 17, 81, 17, 162, 17])
        self.assertEqual(talk(3, 9, 10, 9, 10, [10, 1, 9, 9, 1, 10]), [0, 810, 89, 729, 89, 729, 89, 810, 89])
        # 7 and 3 along 2 first + second = 17, 4 and 6 along first + 2 second = 16.
        self.assertEqual(talk_of((4, 7), (1, 2), (0, 8), (6, 5), (8, 1)), [0, 7, 1, 3, 1, 4, 1, 6, 1])

    def test_one_at_a_corner(self):
        # 6 and 4 where two lines meet, 3 and 8 along 4 first + 3 second = 36.
        self.assertEqual(talk_of((1, 2), (1, 2), (0, 12), (6, 4), (8, 0)), [0, 6, 1, 4, 1, 3, 1, 8, 1])
        # 8 and 3 along 3 first + 4 second = 36, 4 and 6 where two lines meet.
        self.assertEqual(talk_of((1, 2), (1, 2), (12, 0), (4, 6), (0, 8)), [0, 8, 1, 3, 1, 4, 1, 6, 1])

    def test_both_at_corners(self):
        self.assertEqual(talk_of((1, 2), (1, 2), (0, 10), (4, 8), (8, 4), (10, 0)), [0, 8, 1, 4, 1, 4, 1, 8, 1])

    def test_the_two_changed_about(self):
        self.assertEqual(talk_of((1, 2), (1, 3), (5, 0), (0, 10)), [0, 4, 1, 2, 1, 2, 1, 6, 1])
        self.assertEqual(talk_of((1, 3), (1, 2), (10, 0), (0, 5)), [0, 6, 1, 2, 1, 2, 1, 4, 1])

    def test_any_order(self):
        source = random.Random(41)
        corners = [(10, 1), (9, 9), (1, 10), (4, 4), (0, 3), (0, 0)]
        for turn in range(50):
            source.shuffle(corners)
            self.assertEqual(talk_of(HALF, HALF, *corners), [0, 162, 17, 81, 17, 81, 17, 162, 17])


class LessThanAMixture(unittest.TestCase):
    def test_one_corner(self):
        self.assertEqual(talk(1, 1, 2, 1, 2, [4, 4]), [0, 4, 1, 2, 1, 2, 1, 4, 1])
        self.assertEqual(talk(1, 1, 3, 2, 5, [5, 7]), [0, 5, 1, 14, 5, 5, 3, 7, 1])

    def test_the_first_has_their_most(self):
        self.assertEqual(talk(2, 1, 2, 1, 2, [4, 1, 0, 3]), [0, 4, 1, 1, 1, 2, 1, 2, 1])
        # 1 and 5/2 along first + 2 second = 6; 1/2 is less than the corner has for the second.
        self.assertEqual(talk_of((1, 4), (1, 5), (4, 1), (0, 3)), [0, 4, 1, 1, 2, 1, 1, 5, 2])

    def test_the_second_has_their_most(self):
        self.assertEqual(talk_of(HALF, HALF, (1, 4), (3, 0)), [0, 2, 1, 2, 1, 1, 1, 4, 1])
        # 7 and 2 along first + second = 9; 7/2 is less than the corner has for the first.
        self.assertEqual(talk_of(HALF, HALF, (5, 4), (9, 0)), [0, 7, 1, 2, 1, 7, 2, 4, 1])

    def test_each_has_their_most_with_a_line_between(self):
        self.assertEqual(talk_of(HALF, HALF, (5, 7), (6, 6)), [0, 6, 1, 7, 2, 3, 1, 7, 1])

    def test_just_not_their_most(self):
        # With 4 for the first, 2 and 2 would be the second's offer, and 3/5 of 2 is more than 1. So it's along
        # first + 2 second = 6: 24/7 and 9/7, 12/7 and 15/7.
        self.assertEqual(talk_of((1, 2), (3, 5), (4, 1), (0, 3)), [0, 24, 7, 9, 7, 12, 7, 15, 7])


class Edges(unittest.TestCase):
    def test_most_corners(self):
        self.assertEqual(talk(256, 1, 2, 1, 2, [4, 4] * 256), [0, 4, 1, 2, 1, 2, 1, 4, 1])
        self.assertEqual(talk(256, 1, 2, 1, 2, [0, 0] * 254 + [1, 0, 0, 1]), [0, 2, 3, 1, 3, 1, 3, 2, 3])
        self.assertEqual(talk(256, 1, 2, 1, 2, [4, 1] + [0, 0] * 254 + [0, 3]), [0, 4, 1, 1, 1, 2, 1, 2, 1])

    def test_in_the_first_of_many_lines_and_in_the_last(self):
        bends = many_bends()
        low = bends[-1][1]
        corners = [(first, second - low) for first, second in bends]
        most = corners[0][1]
        # Drawn so, the bow is the same for both: it starts along first + 19 second = 19 most and ends along
        # 19 first + second = 19 most.
        self.assertEqual((corners[0], corners[1], corners[-2], corners[-1]),
                         ((0, most), (19, most - 1), (most - 1, 19), (most, 0)))
        greater = Fraction(19 * most * 1000, 19001)
        one, other = offered_by(talk_of((1, 1000), (1, 1000), *corners))
        self.assertEqual(one, (greater, greater / 1000))
        self.assertEqual(other, (greater / 1000, greater))

    def test_most_corners_with_very_many_bends(self):
        source = random.Random(42)
        for first_part, second_part in (((1, 2), (1, 2)), ((1, 1000), (1, 1000)), ((999, 1000), (998, 1000)),
                                        ((1, 1000), (999, 1000)), ((999, 1000), (1, 1000)), ((2, 3), (7, 9))):
            check_words(self, first_part, second_part, most_corners_with_many_bends(source))

    def test_least_and_most_numbers(self):
        self.assertEqual(talk_of(HALF, HALF, (1000, 1000)), [0, 1000, 1, 500, 1, 500, 1, 1000, 1])
        self.assertEqual(talk_of(HALF, HALF, (1, 1)), [0, 1, 1, 1, 2, 1, 2, 1, 1])
        self.assertEqual(talk_of(HALF, HALF, (1, 1000)), [0, 1, 1, 500, 1, 1, 2, 1000, 1])
        self.assertEqual(talk_of(HALF, HALF, (1000, 0), (0, 1)), [0, 2000, 3, 1, 3, 1000, 3, 2, 3])

    def test_near_one(self):
        self.assertEqual(talk(2, 999, 1000, 999, 1000, [1000, 0, 0, 1000]),
                         [0, 1000000, 1999, 999000, 1999, 999000, 1999, 1000000, 1999])
        self.assertEqual(talk_of((999, 1000), (999, 1000), (1000, 1000)), [0, 1000, 1, 999, 1, 999, 1, 1000, 1])

    def test_near_nothing(self):
        self.assertEqual(talk_of((1, 1000), (1, 1000), (1000, 0), (0, 1000)),
                         [0, 1000000, 1001, 1000, 1001, 1000, 1001, 1000000, 1001])
        self.assertEqual(talk_of((1, 1000), (1, 1000), (1, 1)), [0, 1, 1, 1, 1000, 1, 1000, 1, 1])

    def test_one_near_nothing_and_the_other_near_one(self):
        # Along first + second = 1: the first's is 1/1000 of 1/1000 over what is left of both from one.
        lower = 999001
        self.assertEqual(talk_of((1, 1000), (999, 1000), (1, 0), (0, 1)),
                         [0, 1000, lower, 998001, lower, 1, lower, 999000, lower])
        self.assertEqual(talk_of((999, 1000), (1, 1000), (1, 0), (0, 1)),
                         [0, 999000, lower, 1, lower, 998001, lower, 1000, lower])

    def test_corners_more_than_once(self):
        self.assertEqual(talk_of(HALF, HALF, (1, 0), (0, 1), (1, 0), (0, 1), (0, 1)), [0, 2, 3, 1, 3, 1, 3, 2, 3])
        self.assertEqual(talk_of(HALF, HALF, (4, 4), (4, 4)), [0, 4, 1, 2, 1, 2, 1, 4, 1])

    def test_corners_within_what_others_give(self):
        self.assertEqual(talk_of(HALF, HALF, (4, 1), (1, 2), (0, 3), (1, 1), (3, 1)), [0, 4, 1, 1, 1, 2, 1, 2, 1])

    def test_several_corners_in_one_row(self):
        self.assertEqual(talk_of(HALF, HALF, (0, 3), (1, 2), (2, 1), (3, 0)), [0, 2, 1, 1, 1, 1, 1, 2, 1])
        self.assertEqual(talk_of(HALF, HALF, (4, 1), (2, 2), (0, 3)), [0, 4, 1, 1, 1, 2, 1, 2, 1])
        self.assertEqual(talk_of(HALF, HALF, (2, 2), (4, 4), (1, 1)), [0, 4, 1, 2, 1, 2, 1, 4, 1])

    def test_same_number_for_the_first(self):
        self.assertEqual(talk_of(HALF, HALF, (4, 1), (4, 4), (4, 3)), [0, 4, 1, 2, 1, 2, 1, 4, 1])
        self.assertEqual(talk_of(HALF, HALF, (0, 2), (0, 3), (3, 0), (0, 1)), [0, 2, 1, 1, 1, 1, 1, 2, 1])
        self.assertEqual(talk_of(HALF, HALF, (4, 0), (4, 1), (0, 3), (0, 2)), [0, 4, 1, 1, 1, 2, 1, 2, 1])

    def test_same_number_for_the_second(self):
        self.assertEqual(talk_of(HALF, HALF, (1, 4), (4, 4), (3, 4)), [0, 4, 1, 2, 1, 2, 1, 4, 1])
        self.assertEqual(talk_of(HALF, HALF, (2, 0), (3, 0), (0, 3), (1, 0)), [0, 2, 1, 1, 1, 1, 1, 2, 1])
        self.assertEqual(talk_of(HALF, HALF, (0, 4), (1, 4), (3, 0), (2, 0)), [0, 2, 1, 2, 1, 1, 1, 4, 1])

    def test_nothing_for_one_or_both(self):
        self.assertEqual(talk_of(HALF, HALF, (0, 0), (4, 4)), [0, 4, 1, 2, 1, 2, 1, 4, 1])
        self.assertEqual(talk_of(HALF, HALF, (4, 4), (0, 0), (0, 4), (4, 0)), [0, 4, 1, 2, 1, 2, 1, 4, 1])

    def test_something_for_each_in_different_corners_only(self):
        self.assertEqual(talk_of(HALF, HALF, (6, 0), (0, 0), (0, 3)), [0, 4, 1, 1, 1, 2, 1, 2, 1])
        self.assertEqual(talk_of(HALF, HALF, (0, 9), (0, 2), (3, 0), (6, 0)), [0, 4, 1, 3, 1, 2, 1, 6, 1])


class AgainstTheWords(OverManyCorners, unittest.TestCase):
    def setUp(self):
        self.source = random.Random(43)

    def check(self, k, p):
        check_words(self, drawn_part(self.source), drawn_part(self.source), p)

    def test_every_small_part(self):
        for turn in range(12):
            k, p = drawn(self.source, 5, 9)
            for first_part in EVERY_SMALL_PART:
                for second_part in EVERY_SMALL_PART:
                    check_words(self, first_part, second_part, p)

    def test_with_most_corners(self):
        for turn in range(12):
            most_first = self.source.choice((3, 40, 1000))
            most_second = self.source.choice((3, 40, 1000))
            p = flat((self.source.randint(0, most_first), self.source.randint(0, most_second)) for place in range(256))
            self.check(256, p)

    def test_a_part_counts_for_what_it_is_not_for_how_it_is_told(self):
        for turn in range(200):
            k, p = drawn(self.source, 6, 20)
            a, b = self.source.choice(EVERY_SMALL_PART)
            c, d = self.source.choice(EVERY_SMALL_PART)
            times = self.source.randint(2, 200)
            self.assertEqual(talk(k, a * times, b * times, c * times, d * times, p), talk(k, a, b, c, d, p))

    def test_the_two_changed_about_for_many_drawn(self):
        for turn in range(500):
            k, p = drawn(self.source, 8, 50)
            a, b = drawn_part(self.source)
            c, d = drawn_part(self.source)
            answer = talk(k, a, b, c, d, p)
            about = flat(zip(p[1::2], p[0::2]))
            wanted = [0] + answer[7:9] + answer[5:7] + answer[3:5] + answer[1:3]
            self.assertEqual(talk(k, c, d, a, b, about), wanted)


if __name__ == "__main__":
    unittest.main()
