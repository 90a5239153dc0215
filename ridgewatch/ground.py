"""What given drones see of the ground, and what they leave dark.

A part (i, a, b) of the ground stands for the spots (i, t) with t above a and below b.
"""

from ridgewatch.fractions import (
    NOUGHT, ONE, compared, divided, greatest_of, least_of, lessened, multiplied, order_of, summed,
)
from ridgewatch.ridges import line_of, slopes_of
from ridgewatch.shares import in_common, in_order, left_out
from ridgewatch.sight import reach
from ridgewatch.slopes import covered_parts, seen_part, slope_reach


def whole_part(i):
    """All of slope i."""
    return (i, NOUGHT, ONE)


def parts_in_order(parts):
    """The tuple of the parts, ascending, each once."""
    found = []
    for k in order_of([((i, 1), a, b) for i, a, b in parts]):
        if not found or found[-1] != parts[k]:
            found.append(parts[k])
    return tuple(found)


def dark_shares(ridge, h, i, drones):
    """The pairs (a, b) between which no drone sees anything of slope i."""
    return left_out(covered_parts(ridge, h, i, drones))


def dark_within(ridge, h, drones, parts):
    """What is dark within each of the parts by itself."""
    found = []
    for i, a, b in parts:
        common = [in_common((a, b), dark) for dark in dark_shares(ridge, h, i, drones)]
        found.extend([(i, part[0], part[1]) for part in common if part is not None])
    return parts_in_order(found)


def dark_parts(ridge, h, drones):
    """The parts of the ground that no drone sees."""
    return tuple([(i, a, b) for i in range(slopes_of(ridge)) for a, b in dark_shares(ridge, h, i, drones)])


def sees_all(ridge, h, drones):
    """Whether the drones leave no part dark."""
    return dark_parts(ridge, h, drones) == ()


def seen_parts(ridge, h, drones):
    """The parts of the ground that some drone sees."""
    found = []
    for i in range(slopes_of(ridge)):
        found.extend([(i, a, b) for a, b in covered_parts(ridge, h, i, drones) if a != b])
    return tuple(found)


def holds(part, a, b):
    """Whether a seen part, or None, has all from a to b."""
    return part is not None and compared(part[0], a) <= 0 and compared(b, part[1]) <= 0


def slope_layers(ridge, h, i, drones):
    """The layers of slope i."""
    parts = [seen_part(ridge, h, i, x) for x in drones]
    ends = [NOUGHT, ONE]
    for part in parts:
        if part is not None:
            ends.extend(part)
    # Wherever one layer ends a drone's part does: single seen shares lie at 0 and 1 alone.
    shares = in_order(ends)
    found = []
    for a, b in zip(shares, shares[1:]):
        found.append((i, a, b, tuple([k for k in range(len(parts)) if holds(parts[k], a, b)])))
    return found


def layers(ridge, h, drones):
    """The quadruples (i, a, b, lot): parts side by side, lot the numbers of the drones that see all of each."""
    found = []
    for i in range(slopes_of(ridge)):
        found.extend(slope_layers(ridge, h, i, drones))
    return tuple(found)


def watchers(ridge, h, drones, spot):
    """The numbers of the drones that see the ground spot."""
    left, right = reach(ridge, h, spot)
    return tuple([
        k for k in range(len(drones)) if compared(left, drones[k]) <= 0 and compared(drones[k], right) <= 0])


def width_of(ridge, parts):
    """How wide the parts are on the ground's plan."""
    return summed(tuple([multiplied(lessened(b, a), lessened(ridge[i + 1][0], ridge[i][0])) for i, a, b in parts]))


def dark_width(ridge, h, drones):
    """How wide the dark parts are."""
    return width_of(ridge, dark_parts(ridge, h, drones))


def share_seen(ridge, h, drones):
    """What is not dark, over the width of the whole ground."""
    start, end = line_of(ridge)
    return lessened(ONE, divided(dark_width(ridge, h, drones), lessened(end, start)))


def without(drones, k):
    """The drones but number k."""
    return drones[:k] + drones[k + 1:]


def is_needless(ridge, h, drones, k):
    """Whether nothing more is dark without drone number k."""
    return dark_parts(ridge, h, without(drones, k)) == dark_parts(ridge, h, drones)


def needless(ridge, h, drones):
    """The numbers of the drones each of which could go by itself with nothing more dark."""
    return tuple([k for k in range(len(drones)) if is_needless(ridge, h, drones, k)])


def thinned(ridge, h, drones):
    """The drones that are left when each one, from the first on, goes if those left then do not need it."""
    left = drones
    k = 0
    while k < len(left):
        if is_needless(ridge, h, left, k):
            left = without(left, k)
        else:
            k += 1
    return left


def alone_parts(ridge, h, drones, k):
    """The parts that drone number k alone sees."""
    return tuple([(i, a, b) for i, a, b, lot in layers(ridge, h, drones) if lot == (k,)])


def stretch_of(ridge, h, drones, k):
    """The pair of the places between which drone number k may stand and still see all that it alone sees."""
    parts = alone_parts(ridge, h, drones, k)
    if not parts:
        return line_of(ridge)
    low = greatest_of(tuple([slope_reach(ridge, h, i, a)[0] for i, a, _ in parts]))
    high = least_of(tuple([slope_reach(ridge, h, i, b)[1] for i, _, b in parts]))
    return (low, high)


def gain_at(ridge, h, drones, x):
    """By how much the dark width falls with a drone at x, too."""
    return lessened(dark_width(ridge, h, drones), dark_width(ridge, h, drones + (x,)))


def best_place(ridge, h, drones, places):
    """The pair (x, gain) of the first of the places with the greatest gain."""
    gains = [gain_at(ridge, h, drones, x) for x in places]
    gain = greatest_of(tuple(gains))
    return (places[gains.index(gain)], gain)


def greedy_drones(ridge, h, places, k):
    """At most k of the places, taken one by one, each the best with those taken ahead, while something is gained."""
    taken = ()
    for _ in range(k):
        x, gain = best_place(ridge, h, taken, places)
        if gain == NOUGHT:
            break
        taken = taken + (x,)
    return taken
