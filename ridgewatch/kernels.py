"""Kernels of rooms, the spots from which all is seen, and the two or three walls that bar it where there are none."""

from itertools import combinations
from math import gcd

from ridgewatch.fractions import (
    NOUGHT, added, compared, compared_rows, divided, greatest_of, is_whole, least_of, lessened, multiplied, summed,
    turned,
)
from ridgewatch.sides import clipped, inner_side, inner_sides, is_on, lead_of
from ridgewatch.spots import crossed


def behind(sides, spot):
    """The numbers of the sides in which the spot is not."""
    return tuple([i for i in range(len(sides)) if not is_on(sides[i], spot)])


def walls_behind(room, spot):
    """The numbers of the walls on whose inner side the spot is not."""
    return behind(inner_sides(room), spot)


def is_in_kernel(room, spot):
    """Whether the spot is on the inner sides of all walls."""
    return walls_behind(room, spot) == ()


def box_of(room):
    """The form of the upright box around the room."""
    across = tuple([x for x, _ in room])
    up = tuple([y for _, y in room])
    left, right, low, high = least_of(across), greatest_of(across), least_of(up), greatest_of(up)
    return ((left, low), (right, low), (right, high), (left, high))


def shrunk_kernel(room, lead):
    """The form of the spots whose lead of each inner side is lead, which is not below 0, or more."""
    # No spot outside the room is on all inner sides.
    form = box_of(room)
    for a, b, c in inner_sides(room):
        form = clipped(form, (a, b, added(c, lead)))
    return form


def kernel(room):
    """The form of the spots that are on the inner sides of all walls."""
    return shrunk_kernel(room, NOUGHT)


def meeting(one, other):
    """The spot in which the borders of two sides meet; None if they are parallel, or one."""
    turn = crossed(one, other)
    if turn == NOUGHT:
        return None
    (a, b, c), (d, e, f) = one, other
    return (divided(crossed((c, f), (b, e)), turn), divided(crossed((a, d), (c, f)), turn))


def meetings(sides):
    """The list of the spots in which two of the borders meet."""
    spots = [meeting(sides[i], sides[j]) for i, j in combinations(range(len(sides)), 2)]
    return [spot for spot in spots if spot is not None]


def common_spot(room, walls):
    """A spot on the inner sides of one to three walls; None if there is none."""
    sides = [inner_side(room, i) for i in walls]
    # Where all borders are parallel, one of them is in all sides, or nothing is.
    for spot in meetings(sides) + [room[i] for i in walls]:
        if behind(sides, spot) == ():
            return spot
    return None


def rates_of(sides):
    """How often two or three sides are to be taken, up to a factor, for their a's and their b's to add up to 0.

    None if two do not; of three parallel sides nothing but noughts.
    """
    if len(sides) == 3:
        one, other, third = sides
        return (crossed(other, third), crossed(third, one), crossed(one, other))
    one, other = sides
    if crossed(one, other) != NOUGHT:
        return None
    k = 0
    if one[0] == NOUGHT:
        k = 1
    return (turned(other[k]), one[k])


def weights_of(rates):
    """The least integers from 1 on in these proportions; None if the rates are not all above 0, or all below."""
    signs = [compared(rate, NOUGHT) for rate in rates]
    if signs[0] == 0 or signs != [signs[0]] * len(signs):
        return None
    whole = 1
    for _, e in rates:
        whole = whole * e
    counts = [abs(u) * (whole // e) for u, e in rates]
    common = 0
    for count in counts:
        common = gcd(common, count)
    return [count // common for count in counts]


def weighed(sides, pairs, k):
    """The sum of member k of the sides of these walls, each so many times."""
    return summed(tuple([multiplied((weight, 1), sides[i][k]) for i, weight in pairs]))


def paper_of(sides, walls):
    """The paper with these two or three walls; None if there is none."""
    rates = rates_of([sides[i] for i in walls])
    if rates is None:
        return None
    weights = weights_of(rates)
    if weights is None:
        return None
    pairs = tuple(zip(walls, weights))
    if compared(weighed(sides, pairs, 2), NOUGHT) <= 0:
        return None
    return pairs


def bars(room):
    """The least paper of walls that bar a spot that sees all; None if the kernel has a spot."""
    sides = inner_sides(room)
    for many in range(2, 4):
        for walls in combinations(range(len(room)), many):
            paper = paper_of(sides, walls)
            if paper is not None:
                return paper
    return None


def is_pairs(room, value):
    """Whether any value is an ascending tuple of two or three pairs of unlike numbers of walls and of weights."""
    if not isinstance(value, tuple) or not 2 <= len(value) <= 3:
        return False
    last = -1
    for pair in value:
        if not isinstance(pair, tuple) or len(pair) != 2 or not is_whole(pair[0]) or not is_whole(pair[1]):
            return False
        if not last < pair[0] < len(room) or pair[1] < 1:
            return False
        last = pair[0]
    return True


def judge_bars(room, value):
    """None if any value is a paper of walls that bar a spot that sees all, else the first fault."""
    if not is_pairs(room, value):
        return ("form",)
    sides = inner_sides(room)
    if weighed(sides, value, 0) != NOUGHT or weighed(sides, value, 1) != NOUGHT:
        return ("turn",)
    if compared(weighed(sides, value, 2), NOUGHT) <= 0:
        return ("lead",)
    return None


def most_sides(room):
    """The greatest number of inner sides that one spot is on, and the least such spot where two borders meet."""
    sides = inner_sides(room)
    most, best = 0, None
    for spot in meetings(sides):
        many = len(sides) - len(behind(sides, spot))
        if best is None or many > most or (many == most and compared_rows(spot, best) < 0):
            most, best = many, spot
    return (most, best)


def lead_between(one, other):
    """The numbers, as of a side, on whose border one and the other have equal leads."""
    return tuple([lessened(x, y) for x, y in zip(one, other)])


def deepest(room):
    """The greatest least lead of all inner sides that a spot has, and a spot that has it."""
    sides = inner_sides(room)
    best, place = None, None
    # The leads add up to the same everywhere, so there is a greatest; it is had where three leads are equal.
    for i, j, k in combinations(range(len(sides)), 3):
        spot = meeting(lead_between(sides[i], sides[j]), lead_between(sides[i], sides[k]))
        if spot is not None:
            lead = least_of(tuple([lead_of(side, spot) for side in sides]))
            if best is None or compared(lead, best) > 0:
                best, place = lead, spot
    return (best, place)
