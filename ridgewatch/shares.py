"""Shares of a straight way, fractions from 0 to 1, and parts of it: pairs (t, u) of shares, t at most u."""

from ridgewatch.fractions import NOUGHT, ONE, compared, greatest_of, least_of, order_of


def in_order(some):
    """The tuple of the fractions, ascending, each once."""
    found = []
    for k in order_of([(x,) for x in some]):
        if not found or found[-1] != some[k]:
            found.append(some[k])
    return tuple(found)


def put_together(parts):
    """The tuple of what the parts come to, ascending: those that have a share in common, an end too, are one."""
    found = []
    for k in order_of(parts):
        t, u = parts[k]
        if found and compared(t, found[-1][1]) <= 0:
            found[-1] = (found[-1][0], greatest_of((found[-1][1], u)))
        else:
            found.append((t, u))
    return tuple(found)


def left_out(parts):
    """The tuple of the parts, t below u, that are left of the way without these, which are put together."""
    found = []
    at = NOUGHT
    for t, u in parts:
        if compared(at, t) < 0:
            found.append((at, t))
        at = u
    if compared(at, ONE) < 0:
        found.append((at, ONE))
    return tuple(found)


def in_common(one, other):
    """The part, t below u, that two parts have in common; None if there is none."""
    t = greatest_of((one[0], other[0]))
    u = least_of((one[1], other[1]))
    if compared(t, u) >= 0:
        return None
    return (t, u)
