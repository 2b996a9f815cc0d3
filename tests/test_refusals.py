"""What is refused, by each function alike: the first rows of the promises."""

import unittest

from agreed.terms import nash, part, same
from tests.sample_corners import flat

CALLS = (nash, part, same)


class Refusals(unittest.TestCase):
    def check(self, wanted, k, p):
        for call in CALLS:
            with self.subTest(call=call.__name__, k=k, p=p):
                self.assertEqual(call(k, p), wanted)

    def check_corners(self, wanted, *corners):
        self.check(wanted, len(corners), flat(corners))

    def test_wrong_count(self):
        for k in (0, -1, 257, -2147483648, 2147483647):
            self.check([-2], k, [])

    def test_least_and_most_count_are_taken(self):
        self.check([0, 3, 1, 3, 1], 1, [3, 3])
        self.check([0, 3, 1, 3, 1], 256, [3, 3] * 256)

    def test_number_above_the_most(self):
        for number in (1001, 65535):
            self.check_corners([-1], (number, 1))
            self.check_corners([-1], (1, number))
            self.check_corners([-1], (5, 5), (0, 0), (number, 0))
            self.check_corners([-1], (0, number), (5, 5), (6, 6))
            self.check([-1], 256, [5, 5] * 255 + [5, number])
            self.check([-1], 256, [number, 5] + [5, 5] * 255)

    def test_the_most_number_is_taken(self):
        self.check_corners([0, 1000, 1, 1000, 1], (1000, 1000))

    def test_nothing_for_the_first(self):
        self.check_corners([-1], (0, 3))
        self.check_corners([-1], (0, 3), (0, 7), (0, 0))

    def test_nothing_for_the_second(self):
        self.check_corners([-1], (3, 0))
        self.check_corners([-1], (3, 0), (7, 0), (0, 0))

    def test_nothing_for_both(self):
        self.check_corners([-1], (0, 0))
        self.check([-1], 256, [0, 0] * 256)

    def test_something_for_each_in_different_corners_is_taken(self):
        self.check_corners([0, 1, 2, 1, 2], (1, 0), (0, 1))


if __name__ == "__main__":
    unittest.main()
