"""Ways to hold a function against a plain reckoning, over every few small corners and many drawn ones."""

import random

from tests.sample_corners import check_form, drawn, drawn_near_a_bend, every_few


class OverManyCorners:
    """Stands ahead of TestCase in a class that has a method check(k, p)."""

    def test_every_two_small_corners(self):
        for p in every_few(2, 6):
            self.check(2, p)

    def test_every_three_tiny_corners(self):
        for p in every_few(3, 4):
            self.check(3, p)

    def test_many_small_drawn(self):
        source = random.Random(1)
        for turn in range(3000):
            self.check(*drawn(source, 7, 12))

    def test_many_drawn_up_to_the_most(self):
        source = random.Random(2)
        for turn in range(1500):
            self.check(*drawn(source, 9, 1000))

    def test_drawn_near_a_bend(self):
        source = random.Random(3)
        for turn in range(300):
            self.check(*drawn_near_a_bend(source))


class AgainstPlain(OverManyCorners):
    """Asks for two methods instead: answer(k, p), and plain(p), which leaves out the 0."""

    def check(self, k, p):
        answer = self.answer(k, p)
        self.assertEqual(answer, [0] + self.plain(p), (k, p))
        check_form(self, answer)
