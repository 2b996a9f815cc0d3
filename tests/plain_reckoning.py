"""A slow and plain reckoning of the document's words, by another way than the program's.

It builds no outline: it tries every two corners, in Python's own fractions.
"""

from fractions import Fraction


def corners_of(p):
    return list(zip(p[0::2], p[1::2]))


def mixture(one, other, part):
    return (one[0] + part * (other[0] - one[0]), one[1] + part * (other[1] - one[1]))


def best_parts(one, other):
    """The parts of the other at which the product of a mixture of two may be greatest."""
    parts = [Fraction(0), Fraction(1)]
    wide = other[0] - one[0]
    high = other[1] - one[1]
    if wide * high != 0:
        level = Fraction(-(wide * one[1] + high * one[0]), 2 * wide * high)
        if 0 <= level <= 1:
            parts.append(level)
    return parts


def nash_by_pairs(p):
    """The greatest product: what can't be bettered for both is a mixture of two corners at most."""
    corners = corners_of(p)
    best = (Fraction(0), Fraction(0))
    for one in corners:
        for other in corners:
            for part in best_parts(one, other):
                had = mixture(one, other, part)
                if had[0] * had[1] > best[0] * best[1]:
                    best = had
    return told(best)


def even_parts(one, other, wish):
    """The parts of the other at which the lesser part of a wish, in a mixture of two, may be greatest."""
    parts = [Fraction(0), Fraction(1)]
    turn = (other[0] - one[0]) * wish[1] - (other[1] - one[1]) * wish[0]
    if turn != 0:
        even = Fraction(one[1] * wish[0] - one[0] * wish[1], turn)
        if 0 <= even <= 1:
            parts.append(even)
    return parts


def mosts(p):
    return max(p[0::2]), max(p[1::2])


def of_a_wish(had, wish):
    """The part of what they wish for that each of the two has at least."""
    return min(Fraction(had[0]) / wish[0], Fraction(had[1]) / wish[1])


def greatest_of_a_wish(p, wish):
    """The greatest part that both can have of a wish: who has a greater one may have less, down to the same."""
    corners = corners_of(p)
    best = Fraction(0)
    for one in corners:
        for other in corners:
            for part in even_parts(one, other, wish):
                best = max(best, of_a_wish(mixture(one, other, part), wish))
    return told((best * wish[0], best * wish[1]))


def part_by_pairs(p):
    return greatest_of_a_wish(p, mosts(p))


def same_by_pairs(p):
    return greatest_of_a_wish(p, (1, 1))


def told(had):
    first = Fraction(had[0])
    second = Fraction(had[1])
    return [first.numerator, first.denominator, second.numerator, second.denominator]


def can_be_had(p, had):
    """Whether some mixture of two corners gives each of the two no less than that, and that is no less than nothing."""
    if had[0] < 0 or had[1] < 0:
        return False
    corners = corners_of(p)
    return any(a_mixture_reaches(one, other, had) for one in corners for other in corners)


def a_mixture_reaches(one, other, had):
    least = Fraction(0)
    most = Fraction(1)
    for who in (0, 1):
        step = other[who] - one[who]
        missing = had[who] - one[who]
        if step > 0:
            least = max(least, Fraction(missing) / step)
        elif step < 0:
            most = min(most, Fraction(missing) / step)
        elif missing > 0:
            return False
    return least <= most


def nothing_is_better_for_both(p, had):
    """Whether at some price of what the first has, in what the second has, no corner is worth more than that.

    Then no mixture is worth more either, and what's better for both would be. Who has their most can't have better,
    which for the first would be a price without end.
    """
    if had[0] >= mosts(p)[0]:
        return True
    least = Fraction(0)
    most = None
    for first, second in corners_of(p):
        more = first - had[0]
        less = had[1] - second
        if more > 0:
            bound = Fraction(less) / more
            most = bound if most is None else min(most, bound)
        elif more < 0:
            least = max(least, Fraction(less) / more)
        elif less < 0:
            return False
    return most is None or least <= most


def thirds_and_such(p, pieces):
    """Every mixture of any three corners with parts that are so many pieces of one."""
    corners = corners_of(p)
    for one in corners:
        for two in corners:
            for three in corners:
                for a in range(pieces + 1):
                    for b in range(pieces + 1 - a):
                        c = pieces - a - b
                        yield (
                            Fraction(a * one[0] + b * two[0] + c * three[0], pieces),
                            Fraction(a * one[1] + b * two[1] + c * three[1], pieces),
                        )
