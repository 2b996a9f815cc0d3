"""What is refused, by each function alike: the first rows of the promises."""

import unittest

from agreed.terms import nash, part, same, talk
from tests.sample_corners import flat

WRONG_PARTS = (
    (0, 2), (-1, 2), (-2147483648, 2), (2, 2), (3, 2), (1000, 2), (2147483647, 2),
    (1, 1001), (1000, 1001), (1001, 1001), (1002, 1001), (0, 1001), (1, 2147483647), (2147483646, 2147483647),
    (1, 0), (0, 0), (-1, 0), (1, 1), (0, 1), (-1, 1), (2, 1),
    (1, -1), (-2, -1), (1, -2147483648), (-2147483648, -2147483648), (0, -2147483648),
)
WRONG_COUNTS = (0, -1, 257, -2147483648, 2147483647)


def talk_by_halves(k, p):
    return talk(k, 1, 2, 1, 2, p)


class Refusals(unittest.TestCase):
    def check(self, wanted, k, p, calls=(nash, part, same, talk_by_halves)):
        for call in calls:
            with self.subTest(call=call.__name__, k=k, p=p):
                self.assertEqual(call(k, p), wanted)

    def check_corners(self, wanted, *corners):
        self.check(wanted, len(corners), flat(corners))

    def check_taken(self, wanted, wanted_by_halves, k, p):
        self.check(wanted, k, p, (nash, part, same))
        self.check(wanted_by_halves, k, p, (talk_by_halves,))

    def test_wrong_count(self):
        for k in WRONG_COUNTS:
            self.check([-2], k, [])

    def test_least_and_most_count_are_taken(self):
        self.check_taken([0, 2, 1, 2, 1], [0, 2, 1, 1, 1, 1, 1, 2, 1], 1, [2, 2])
        self.check_taken([0, 2, 1, 2, 1], [0, 2, 1, 1, 1, 1, 1, 2, 1], 256, [2, 2] * 256)

    def test_number_above_the_most(self):
        for number in (1001, 65535):
            self.check_corners([-1], (number, 1))
            self.check_corners([-1], (1, number))
            self.check_corners([-1], (5, 5), (0, 0), (number, 0))
            self.check_corners([-1], (0, number), (5, 5), (6, 6))
            self.check([-1], 256, [5, 5] * 255 + [5, number])
            self.check([-1], 256, [number, 5] + [5, 5] * 255)

    def test_the_most_number_is_taken(self):
        self.check_taken([0, 1000, 1, 1000, 1], [0, 1000, 1, 500, 1, 500, 1, 1000, 1], 1, [1000, 1000])

    def test_nothing_for_the_first(self):
        self.check_corners([-1], (0, 3))
        self.check_corners([-1], (0, 3), (0, 7), (0, 0))

    def test_nothing_for_the_second(self):
        self.check_corners([-1], (3, 0))
        self.check_corners([-1], (3, 0), (7, 0), (0, 0))

    def test_nothing_for_both(self):
        self.check_corners([-1], (0, 0))
        self.check([-1], 256, [0, 0] * 256)

    def test_something_for_each_in_different_corners_is_taken(self):
        self.check_taken([0, 1, 2, 1, 2], [0, 2, 3, 1, 3, 1, 3, 2, 3], 2, [1, 0, 0, 1])


class RefusalsOfTalk(unittest.TestCase):
    def test_wrong_part_for_the_first(self):
        for a, b in WRONG_PARTS:
            self.assertEqual(talk(1, a, b, 1, 2, [3, 3]), [-2], (a, b))

    def test_wrong_part_for_the_second(self):
        for c, d in WRONG_PARTS:
            self.assertEqual(talk(1, 1, 2, c, d, [3, 3]), [-2], (c, d))

    def test_wrong_part_for_both(self):
        for a, b in WRONG_PARTS:
            for c, d in WRONG_PARTS:
                self.assertEqual(talk(1, a, b, c, d, [3, 3]), [-2], (a, b, c, d))

    def test_least_and_most_parts_are_taken(self):
        self.assertEqual(talk(1, 1, 2, 1, 1000, [1000, 1000]), [0, 1000, 1, 1, 1, 500, 1, 1000, 1])
        self.assertEqual(talk(1, 1, 1000, 1, 2, [1000, 1000]), [0, 1000, 1, 500, 1, 1, 1, 1000, 1])
        self.assertEqual(talk(1, 999, 1000, 1, 2, [1000, 1000]), [0, 1000, 1, 500, 1, 999, 1, 1000, 1])
        self.assertEqual(talk(1, 1, 2, 999, 1000, [1000, 1000]), [0, 1000, 1, 999, 1, 500, 1, 1000, 1])

    def test_wrong_count_with_a_wrong_part(self):
        for k in WRONG_COUNTS:
            self.assertEqual(talk(k, 0, 2, 1, 2, []), [-2])
            self.assertEqual(talk(k, 1, 2, 2, 2, []), [-2])

    def test_a_wrong_part_is_told_before_wrong_corners(self):
        for p in ([1001, 3], [3, 65535], [0, 3], [3, 0], [0, 0]):
            self.assertEqual(talk(1, 1, 2, 1, 2, p), [-1])
            self.assertEqual(talk(1, 2, 2, 1, 2, p), [-2])
            self.assertEqual(talk(1, 1, 2, 1, 1001, p), [-2])


if __name__ == "__main__":
    unittest.main()
