"""What two settle on, of what the corners let them have."""

MOST_CORNERS = 256
MOST_NUMBER = 1000
MOST_LOWER = 1000


def nash(k, p):
    """Of what they can have, that of which the product of both is greatest."""
    refusal = refusal_of(k, p)
    if refusal != 0:
        return [refusal]
    return [0] + greatest_product(outline_of(corners_of(k, p)))


def part(k, p):
    """Of what gives each the same part of the most that they could have alone, that of which the part is greatest."""
    refusal = refusal_of(k, p)
    if refusal != 0:
        return [refusal]
    outline = outline_of(corners_of(k, p))
    most_first = outline[-1][0]
    most_second = outline[0][1]
    return [0] + greatest_in_shares(edge_of(outline), most_first, most_second)


def same(k, p):
    """Of what gives both the same, the greatest."""
    refusal = refusal_of(k, p)
    if refusal != 0:
        return [refusal]
    return [0] + greatest_in_shares(edge_of(outline_of(corners_of(k, p))), 1, 1)


def talk(k, a, b, c, d, p):
    """The first's offer and the second's, if waiting leaves the first a / b of an offer and the second c / d."""
    if not is_left_by_waiting(a, b) or not is_left_by_waiting(c, d):
        return [-2]
    refusal = refusal_of(k, p)
    if refusal != 0:
        return [refusal]
    return [0] + two_offers(edge_of(outline_of(corners_of(k, p))), a, b, c, d)


def is_left_by_waiting(upper, lower):
    """Whether upper / lower may be what waiting leaves of an offer: something, but not all."""
    return 1 <= upper and upper < lower and lower <= MOST_LOWER


def refusal_of(k, p):
    """The number of the refusal, or 0 if there is something to settle."""
    if not is_count(k):
        return -2
    if not are_worth_a_deal(corners_of(k, p)):
        return -1
    return 0


def is_count(k):
    """Whether so many corners may be told."""
    return 1 <= k and k <= MOST_CORNERS


def corners_of(k, p):
    """The numbers two by two: what the first has, what the second has."""
    return [(p[2 * place], p[2 * place + 1]) for place in range(k)]


def are_worth_a_deal(corners):
    """Whether no number is too great and each of the two has something in some corner."""
    most_first = max([corner[0] for corner in corners])
    most_second = max([corner[1] for corner in corners])
    if most_first > MOST_NUMBER or most_second > MOST_NUMBER:
        return False
    return most_first > 0 and most_second > 0


def outline_of(corners):
    """The corners at which what can't be bettered for both bends or ends, from the second's best to the first's.

    From one to the next the first has more and the second less, at an ever steeper price.
    """
    outline = []
    for corner in sorted(corners):
        while is_last_needless(outline, corner):
            outline.pop()
        outline.append(corner)
    return outline


def is_last_needless(outline, corner):
    """Whether the outline's last adds nothing once the corner, which gives the first no less, is there."""
    if len(outline) == 0:
        return False
    last = outline[-1]
    if last[1] <= corner[1]:
        return True
    if len(outline) == 1:
        return False
    return is_within(outline[-2], last, corner)


def is_within(left, middle, right):
    """Whether the middle one is on the line from left to right, or on that side of it where both have less."""
    run = right[0] - left[0]
    rise = right[1] - left[1]
    return (middle[1] - left[1]) * run <= rise * (middle[0] - left[0])


def edge_of(outline):
    """The outline with its two ends drawn out to where the first has nothing and where the second has nothing.

    On what is drawn out one of them has their most, so nothing is better for both there either. Where an end has
    nothing for one of the two already, it stands twice.
    """
    return [(0, outline[0][1])] + outline + [(outline[-1][0], 0)]


def line_through(left, right):
    """The numbers fall, run and reach of the line from left to right: fall * first + run * second = reach."""
    fall = left[1] - right[1]
    run = right[0] - left[0]
    return (fall, run, fall * left[0] + run * left[1])


def greatest_product(outline):
    """What two have where, along the outline, the product is greatest.

    The outline bends one way only, so the product rises up to one place and falls behind it.
    """
    for place in range(len(outline) - 1):
        left = outline[place]
        right = outline[place + 1]
        line = line_through(left, right)
        fall = line[0]
        run = line[1]
        reach = line[2]
        # The line's product is greatest where each of the two terms that make reach is half of it.
        if reach <= 2 * fall * left[0]:
            return fraction(left[0], 1) + fraction(left[1], 1)
        if reach < 2 * fall * right[0]:
            return fraction(reach, 2 * fall) + fraction(reach, 2 * run)
    last = outline[-1]
    return fraction(last[0], 1) + fraction(last[1], 1)


def greatest_in_shares(edge, first_share, second_share):
    """What two have where, along the edge, what they have is to one another as their shares are.

    Along the edge the first's grows from nothing and the second's falls to nothing, so there is just one such place.
    """
    place = 1
    while edge[place][0] * second_share < edge[place][1] * first_share:
        place = place + 1
    line = line_through(edge[place - 1], edge[place])
    reach = line[2]
    # With the shares themselves the line's sum would be whole, so what makes it reach is reach over whole of them.
    whole = line[0] * first_share + line[1] * second_share
    return fraction(reach * first_share, whole) + fraction(reach * second_share, whole)


def two_offers(edge, a, b, c, d):
    """The first's offer and the second's, both on the edge, such that neither of the two gains by waiting.

    The first's in the one times a is the first's in the other times b, and the second's in the one times d is the
    second's in the other times c. So both offers are at the one place where the edge drawn larger by a and d meets
    the edge drawn larger by b and c.
    """
    meeting = meeting_of(drawn_larger(edge, a, d), drawn_larger(edge, b, c))
    first = meeting[0]
    second = meeting[1]
    lower = meeting[2]
    one = fraction(first, lower * a) + fraction(second, lower * d)
    other = fraction(first, lower * b) + fraction(second, lower * c)
    return one + other


def drawn_larger(edge, first_times, second_times):
    """The edge with the first's so many times and the second's so many times."""
    return [(bend[0] * first_times, bend[1] * second_times) for bend in edge]


def meeting_of(high, wide):
    """Where an edge that starts higher meets one that ends wider: first and second, and what both are divided by."""
    high_lines = lines_of(high)
    wide_lines = lines_of(wide)
    inward = 1
    while not is_bounded(high[inward], wide_lines):
        inward = inward + 1
    outward = 1
    while is_bounded(wide[outward], high_lines):
        outward = outward + 1
    return crossing_of(high_lines[inward - 1], wide_lines[outward - 1])


def lines_of(edge):
    """The lines from each bend of the edge to the next."""
    return [line_through(edge[place - 1], edge[place]) for place in range(1, len(edge))]


def is_bounded(bend, lines):
    """Whether the bend is beyond none of the lines."""
    for line in lines:
        if line[0] * bend[0] + line[1] * bend[1] > line[2]:
            return False
    return True


def crossing_of(steep, shallow):
    """Where two lines cross, of which the one is steeper: first and second, and what both are divided by."""
    first = steep[2] * shallow[1] - shallow[2] * steep[1]
    second = steep[0] * shallow[2] - shallow[0] * steep[2]
    return (first, second, steep[0] * shallow[1] - shallow[0] * steep[1])


def fraction(upper, lower):
    """The two numbers that tell upper over lower, without a common divisor."""
    divisor = common_divisor(upper, lower)
    return [upper // divisor, lower // divisor]


def common_divisor(one, other):
    """The greatest number that divides both, of which the other is not 0."""
    while other != 0:
        rest = one % other
        one = other
        other = rest
    return one
