"""Spots of the plane, pairs (x, y) of fractions, and straight lines through them."""

from ridgewatch.fractions import (
    NOUGHT, added, between, compared, divided, is_pair, lessened, multiplied, summed,
)


def is_spot(value):
    """Whether any value is a spot."""
    return is_pair(value)


def way(a, b):
    """How far b lies to the right of a and above it, a pair."""
    return (lessened(b[0], a[0]), lessened(b[1], a[1]))


def crossed(one, other):
    """The x of one times the y of the other, less the y of one times the x of the other."""
    return lessened(multiplied(one[0], other[1]), multiplied(one[1], other[0]))


def side_of(a, b, c):
    """1, 0 or -1 if c lies to the left of the line from a to b, on it, or to the right (0 if b is a)."""
    return compared(crossed(way(a, b), way(a, c)), NOUGHT)


def height_at(a, b, x):
    """The y at which the line through a and b has this x."""
    run, rise = way(a, b)
    return added(a[1], divided(multiplied(rise, lessened(x, a[0])), run))


def place_at(a, b, y):
    """The x at which the line through a and b has this y."""
    run, rise = way(a, b)
    return added(a[0], divided(multiplied(run, lessened(y, a[1])), rise))


def crossing_share(a, b, c, d):
    """Which share of the way from a to b, beyond its ends too, the line through c and d meets; None if not just one."""
    one, other = way(a, b), way(c, d)
    turn = crossed(one, other)
    if turn == NOUGHT:
        return None
    return divided(crossed(way(a, c), other), turn)


def crossing(a, b, c, d):
    """The spot in which the lines through a and b and through c and d meet; None if there is not just one."""
    t = crossing_share(a, b, c, d)
    if t is None:
        return None
    return spot_between(a, b, t)


def is_within(x, y, z):
    """Whether the fraction z lies from x to y, or from y to x."""
    return compared(x, z) * compared(z, y) >= 0


def is_between(a, b, c):
    """Whether c lies on the stretch from a to b, its ends too."""
    if side_of(a, b, c) != 0:
        return False
    return is_within(a[0], b[0], c[0]) and is_within(a[1], b[1], c[1])


def do_meet(a, b, c, d):
    """Whether the stretches from a to b and from c to d have a spot in common."""
    if is_between(a, b, c) or is_between(a, b, d) or is_between(c, d, a) or is_between(c, d, b):
        return True
    # No end lies on the other stretch: they meet only where each goes from one side of the other to the other side.
    return side_of(a, b, c) * side_of(a, b, d) < 0 and side_of(c, d, a) * side_of(c, d, b) < 0


def spot_between(a, b, t):
    """The spot t of the way from a to b."""
    return (between(a[0], b[0], t), between(a[1], b[1], t))


def area_twice(spots):
    """Twice the area that three or more spots go round, above 0 against the clock."""
    return summed(tuple([crossed(spots[k - 1], spots[k]) for k in range(len(spots))]))
