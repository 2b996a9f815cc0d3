"""Whether the plain reckoning itself tells right from wrong, where the program's answers lean on it."""

import unittest
from fractions import Fraction

from tests.plain_reckoning import can_be_had, nothing_is_better_for_both

LITTLE = Fraction(1, 10 ** 9)


class CanBeHad(unittest.TestCase):
    def test_a_mixture_or_less(self):
        for had in ((2, 2), (0, 3), (4, 1), (4, 0), (0, 0), (1, 1), (Fraction(1, 2), Fraction(11, 4))):
            self.assertTrue(can_be_had([4, 1, 0, 3], had), had)

    def test_more_than_any_mixture(self):
        for had in ((2 + LITTLE, 2), (2, 2 + LITTLE), (0, 3 + LITTLE), (4 + LITTLE, 0), (4, 1 + LITTLE)):
            self.assertFalse(can_be_had([4, 1, 0, 3], had), had)

    def test_less_than_nothing(self):
        self.assertFalse(can_be_had([4, 1, 0, 3], (-LITTLE, 1)))
        self.assertFalse(can_be_had([4, 1, 0, 3], (1, -LITTLE)))


class NothingIsBetterForBoth(unittest.TestCase):
    def test_along_the_line_and_beyond_its_ends(self):
        for had in ((2, 2), (0, 3), (4, 1), (4, Fraction(1, 2)), (4, 0)):
            self.assertTrue(nothing_is_better_for_both([4, 1, 0, 3], had), had)
        for had in ((4, 4), (4, 0), (4, 2), (0, 4), (2, 4)):
            self.assertTrue(nothing_is_better_for_both([4, 4], had), had)

    def test_something_is(self):
        for had in ((2 - LITTLE, 2 - LITTLE), (0, 3 - LITTLE), (4 - LITTLE, 1), (4 - LITTLE, 0), (1, 1)):
            self.assertFalse(nothing_is_better_for_both([4, 1, 0, 3], had), had)
        for had in ((4 - LITTLE, 0), (0, 4 - LITTLE), (4 - LITTLE, 4 - LITTLE)):
            self.assertFalse(nothing_is_better_for_both([4, 4], had), had)


if __name__ == "__main__":
    unittest.main()
