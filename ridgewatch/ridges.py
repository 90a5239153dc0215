"""Ridges: tuples of two or more spots, their corners, with x ascending; slope i goes from corner i to the next."""

from ridgewatch.fractions import (
    NOUGHT, ONE, added, compared, divided, greatest_of, is_fraction, is_whole, lessened, multiplied, order_of, turned,
)
from ridgewatch.spots import is_spot, side_of, spot_between, way


def judge_ridge(value):
    """None if any value is a ridge, else the first fault."""
    if not isinstance(value, tuple) or len(value) < 2:
        return ("form",)
    for k in range(len(value)):
        if not is_spot(value[k]):
            return ("corner", k)
    for k in range(1, len(value)):
        if compared(value[k - 1][0], value[k][0]) >= 0:
            return ("ascend", k)
    return None


def is_ridge(value):
    """Whether any value is a ridge."""
    return judge_ridge(value) is None


def slopes_of(ridge):
    """How many slopes the ridge has."""
    return len(ridge) - 1


def steepness(ridge, i):
    """By how much y grows while x grows by 1 on slope i."""
    run, rise = way(ridge[i], ridge[i + 1])
    return divided(rise, run)


def is_share(value):
    """Whether any value is a fraction from 0 to 1."""
    return is_fraction(value) and compared(NOUGHT, value) <= 0 and compared(value, ONE) <= 0


def is_ground_spot(ridge, value):
    """Whether any value is a ground spot (i, t) of the ridge."""
    if not isinstance(value, tuple) or len(value) != 2:
        return False
    i, t = value
    return is_whole(i) and 0 <= i < slopes_of(ridge) and is_share(t)


def spot_of(ridge, ground):
    """The spot of a ground spot."""
    i, t = ground
    return spot_between(ridge[i], ridge[i + 1], t)


def share_of(ridge, i, x):
    """Which share of the way along slope i has this x, beyond its ends too."""
    start = ridge[i][0]
    return divided(lessened(x, start), lessened(ridge[i + 1][0], start))


def ground_at(ridge, x):
    """The ground spot with this x; None outside the line."""
    if not is_place(ridge, x):
        return None
    for i in range(slopes_of(ridge)):
        if compared(x, ridge[i + 1][0]) < 0:
            return (i, share_of(ridge, i, x))
    return (slopes_of(ridge) - 1, ONE)


def first_form(ridge, ground):
    """The ground spot that ground_at tells of the same spot."""
    return ground_at(ridge, spot_of(ridge, ground)[0])


def line_of(ridge):
    """The first and the last corner's x."""
    return (ridge[0][0], ridge[-1][0])


def top_of(ridge):
    """The greatest y of a corner."""
    return greatest_of(tuple([y for _, y in ridge]))


def is_height(ridge, value):
    """Whether any value is a height above the ridge."""
    return is_fraction(value) and compared(value, top_of(ridge)) > 0


def is_place(ridge, value):
    """Whether any value is a place of the ridge's line."""
    start, end = line_of(ridge)
    return is_fraction(value) and compared(start, value) <= 0 and compared(value, end) <= 0


def shifted(ridge, dx, dy):
    """The ridge moved by dx and dy."""
    return tuple([(added(x, dx), added(y, dy)) for x, y in ridge])


def mirrored(ridge):
    """The ridge with left and right exchanged."""
    return tuple([(turned(x), y) for x, y in ridge[::-1]])


def stretched(ridge, a, b):
    """The ridge with each x taken a times, each y b times."""
    return tuple([(multiplied(a, x), multiplied(b, y)) for x, y in ridge])


def sheared(ridge, s):
    """The ridge with s times x added to each y."""
    return tuple([(x, added(y, multiplied(s, x))) for x, y in ridge])


def mirrored_ground(ridge, ground):
    """What a ground spot becomes in the mirrored ridge."""
    i, t = ground
    return (slopes_of(ridge) - 1 - i, lessened(ONE, t))


def joined(one, other):
    """One, and behind its last corner the other one, moved there."""
    dx, dy = way(other[0], one[-1])
    return one + shifted(other, dx, dy)[1:]


def cut(ridge, a, b):
    """The ridge of the ground from a to b."""
    inner = [corner for corner in ridge if compared(a, corner[0]) < 0 and compared(corner[0], b) < 0]
    start = spot_of(ridge, ground_at(ridge, a))
    end = spot_of(ridge, ground_at(ridge, b))
    return tuple([start] + inner + [end])


def refined(ridge, grounds):
    """The ridge with these ground spots as corners, too, each once."""
    spots = list(ridge) + [spot_of(ridge, ground) for ground in grounds]
    corners = []
    for k in order_of([(x,) for x, _ in spots]):
        if not corners or corners[-1] != spots[k]:
            corners.append(spots[k])
    return tuple(corners)


def plain(ridge):
    """The ridge without the corners that lie on a straight way."""
    corners = []
    for corner in ridge:
        if len(corners) > 1 and side_of(corners[-2], corners[-1], corner) == 0:
            corners.pop()
        corners.append(corner)
    return tuple(corners)


def same_ground(one, other):
    """Whether both ridges have the same ground."""
    return plain(one) == plain(other)
