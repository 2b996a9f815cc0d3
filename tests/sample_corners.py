"""Corners for the tests, drawn or made, and what holds of the form of every answer that is not a refusal."""

from fractions import Fraction
from math import gcd


def flat(corners):
    return [number for corner in corners for number in corner]


def is_worth_a_deal(p):
    return any(p[0::2]) and any(p[1::2])


def every_few(k, numbers):
    """Every k corners with numbers below so many, such that each of the two has something in one of them."""
    for code in range(numbers ** (2 * k)):
        p = [code // numbers ** place % numbers for place in range(2 * k)]
        if is_worth_a_deal(p):
            yield p


def drawn(source, most_corners, most_number):
    """Corners drawn at will, such that each of the two has something in one of them."""
    while True:
        k = source.randint(1, most_corners)
        p = [source.randint(0, most_number) for place in range(2 * k)]
        if is_worth_a_deal(p):
            return k, p


def drawn_near_a_bend(source):
    """Corners on a round bow, each of which nearly lies on the line between its neighbours."""
    while True:
        k = source.randint(3, 12)
        firsts = [source.randint(0, 1000) for place in range(k)]
        p = flat((first, int((10 ** 6 - first * first) ** 0.5)) for first in firsts)
        if is_worth_a_deal(p):
            return k, p


def drawn_part(source):
    """What waiting leaves: a part of one, near nothing or near one among others, in lowest terms or not."""
    lower = source.choice((2, 3, source.randint(2, 12), source.randint(2, 1000), 1000))
    return source.choice((1, lower - 1, source.randint(1, lower - 1))), lower


def many_bends():
    """Corners each of which stands out: from one to the next by all small steps, the steepest last."""
    steps = [(run, fall) for run in range(1, 20) for fall in range(1, 20) if run + fall < 21 and gcd(run, fall) == 1]
    corners = [(0, 1000)]
    for run, fall in sorted(steps, key=lambda step: Fraction(step[1], step[0])):
        corners.append((corners[-1][0] + run, corners[-1][1] - fall))
    return corners


def most_corners_with_many_bends(source):
    bends = many_bends()
    corners = bends + [(0, place) for place in range(256 - len(bends))]
    source.shuffle(corners)
    return flat(corners)


def had_by(answer):
    return Fraction(answer[1], answer[2]), Fraction(answer[3], answer[4])


def offered_by(answer):
    """What two would have by the first's offer, and by the second's."""
    return had_by(answer), had_by(answer[4:])


def check_form(case, answer, fractions=2):
    """0 and so many fractions in lowest terms, all of them plain whole numbers."""
    case.assertEqual(len(answer), 1 + 2 * fractions)
    for number in answer:
        case.assertIs(type(number), int)
    case.assertEqual(answer[0], 0)
    for upper, lower in zip(answer[1::2], answer[2::2]):
        case.assertGreater(lower, 0)
        case.assertEqual(gcd(upper, lower), 1)
