"""Where the sight from a slope ends, and which part of a slope a drone sees."""

from ridgewatch.fractions import NOUGHT, ONE, amount, compared, divided, greatest_of, least_of, lessened, turned
from ridgewatch.ridges import is_share, line_of, mirrored, share_of, slopes_of, spot_of, steepness, top_of
from ridgewatch.shares import put_together
from ridgewatch.sight import left_end
from ridgewatch.spots import crossing, height_at, place_at, side_of


def mirrored_slope(ridge, i):
    """The number that slope i has in the mirrored ridge."""
    return slopes_of(ridge) - 1 - i


def falls(ridge, i):
    """Whether slope i rises to the left."""
    return compared(ridge[i][1], ridge[i + 1][1]) > 0


def own_place(ridge, h, i):
    """The place at which the straight line of slope i, which is not level, meets height h."""
    return place_at(ridge[i], ridge[i + 1], h)


def slope_left_end(ridge, h, i, t):
    """The left end of the slope reach."""
    end = left_end(ridge, h, (i, t))
    if falls(ridge, i):
        return greatest_of((end, own_place(ridge, h, i)))
    return end


def slope_reach(ridge, h, i, t):
    """The pair (L, R) of the spot (i, t) for one who stands a little inside the slope."""
    right = slope_left_end(mirrored(ridge), h, mirrored_slope(ridge, i), lessened(ONE, t))
    return (slope_left_end(ridge, h, i, t), turned(right))


def left_marks(ridge, h, i):
    """The pairs (c, spot) of all that may bar more to the left of slope i than its own line does, farthest first.

    The end of the line counts as one, with None: a sight that passes beneath it meets h at a greater place.
    """
    marks = [(None, (line_of(ridge)[0], h))] + [(k, ridge[k]) for k in range(i)]
    return [mark for mark in marks if side_of(ridge[i], ridge[i + 1], mark[1]) > 0]


def first_mark(ridge, i, marks):
    """The number of the mark that is seen steepest from the beginning of slope i, of equal ones the farthest."""
    best = 0
    for k in range(1, len(marks)):
        if side_of(ridge[i], marks[best][1], marks[k][1]) < 0:
            best = k
    return best


def next_mark(ridge, i, marks, now, t):
    """The pair (share, number) of the mark that is seen steepest next, beyond the share t; None for the last one.

    Going right, nearer marks sink faster: it is a farther one. Of several at one share the farthest stays above.
    """
    found = None
    for k in range(now):
        spot = crossing(marks[k][1], marks[now][1], ridge[i], ridge[i + 1])
        if spot is None:
            continue
        share = share_of(ridge, i, spot[0])
        if compared(share, t) <= 0 or compared(share, ONE) >= 0:
            continue
        if found is None or compared(share, found[0]) < 0:
            found = (share, k)
    return found


def left_pieces(ridge, h, i):
    """The triples (t1, t2, c): from t1 to t2 the sight to L goes through corner c."""
    marks = left_marks(ridge, h, i)
    if not marks:
        return ((NOUGHT, ONE, i),)
    pieces = []
    t, now = NOUGHT, first_mark(ridge, i, marks)
    found = next_mark(ridge, i, marks, now, t)
    while found is not None:
        pieces.append((t, found[0], marks[now][0]))
        t, now = found
        found = next_mark(ridge, i, marks, now, t)
    pieces.append((t, ONE, marks[now][0]))
    return tuple(pieces)


def mirrored_corner(ridge, c):
    """The number that a corner has in the mirrored ridge; None for None."""
    if c is None:
        return None
    return slopes_of(ridge) - c


def right_pieces(ridge, h, i):
    """The triples (t1, t2, c): from t1 to t2 the sight to R goes through corner c."""
    pieces = left_pieces(mirrored(ridge), h, mirrored_slope(ridge, i))
    return tuple([(lessened(ONE, t2), lessened(ONE, t1), mirrored_corner(ridge, c)) for t1, t2, c in pieces[::-1]])


def end_on(ridge, h, i, c, t):
    """The place at which the line from the spot (i, t) through corner c meets height h; None for None."""
    if c is None:
        return None
    if c == i or c == i + 1:
        return own_place(ridge, h, i)
    return place_at(spot_of(ridge, (i, t)), ridge[c], h)


def lead_over(eye, corner, spot):
    """How far the spot stands above the straight line from the eye through the corner."""
    return lessened(spot[1], height_at(eye, corner, spot[0]))


def first_left(ridge, h, i, x):
    """The least t with L of slope_reach at most x; None if there is none."""
    if falls(ridge, i) and compared(own_place(ridge, h, i), x) > 0:
        return None
    shares = [NOUGHT]
    for corner in ridge[:i]:
        if compared(x, corner[0]) >= 0:
            continue
        # Along the slope this lead changes evenly; where the corner bars, it is below 0, and grows.
        start = lead_over((x, h), corner, ridge[i])
        end = lead_over((x, h), corner, ridge[i + 1])
        if compared(end, NOUGHT) < 0:
            return None
        if compared(start, NOUGHT) < 0:
            shares.append(divided(start, lessened(start, end)))
    return greatest_of(tuple(shares))


def last_right(ridge, h, i, x):
    """The greatest t with R of slope_reach at least x; None if there is none."""
    t = first_left(mirrored(ridge), h, mirrored_slope(ridge, i), turned(x))
    if t is None:
        return None
    return lessened(ONE, t)


def seen_part(ridge, h, i, x):
    """The pair (t1, t2) of the ends of the part of slope i that the drone x sees; None if it sees nothing of it."""
    t1 = first_left(ridge, h, i, x)
    t2 = last_right(ridge, h, i, x)
    if t1 is None or t2 is None or compared(t1, t2) > 0:
        return None
    return (t1, t2)


def is_shares(value):
    """Whether any value is a pair of fractions from 0 to 1."""
    return isinstance(value, tuple) and len(value) == 2 and is_share(value[0]) and is_share(value[1])


def judge_part(ridge, h, i, x, value):
    """None if any value is seen_part, else the first fault."""
    if value is not None and not is_shares(value):
        return ("form",)
    if value != seen_part(ridge, h, i, x):
        return ("part",)
    return None


def covered_parts(ridge, h, i, drones):
    """What the drones see of slope i: parts that have a share in common are put together."""
    seen = [seen_part(ridge, h, i, x) for x in drones]
    return put_together([part for part in seen if part is not None])


def is_covered(ridge, h, i, drones):
    """Whether the drones see all of slope i."""
    return covered_parts(ridge, h, i, drones) == ((NOUGHT, ONE),)


def greatest_steepness(ridge):
    """The greatest amount of a slope's steepness."""
    return greatest_of(tuple([amount(steepness(ridge, i)) for i in range(slopes_of(ridge))]))


def sure_distance(ridge, h):
    """How far each sight that a corner bars goes at least, from height h to the ridge's top; None if all is level."""
    steep = greatest_steepness(ridge)
    if steep == NOUGHT:
        return None
    return divided(lessened(h, top_of(ridge)), steep)


def span_floor(ridge, h):
    """What each reach is at least as long as, or the whole line is."""
    start, end = line_of(ridge)
    length = lessened(end, start)
    sure = sure_distance(ridge, h)
    if sure is None:
        return length
    return least_of((length, sure))
