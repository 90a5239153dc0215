"""The fewest drones that see the ground, and the paper of spots that shows that no fewer do.

A part (i, a, b) of the ground stands for the spots (i, t) with t above a and below b.
"""

from ridgewatch.fractions import compared, divided, least_of, lessened, multiplied, whole_below
from ridgewatch.ground import dark_within, whole_part
from ridgewatch.ridges import is_ground_spot, is_place, line_of, slopes_of
from ridgewatch.sight import reaches
from ridgewatch.slopes import first_left, greatest_steepness, slope_reach, sure_distance


def whole_ground(ridge):
    """The parts that are all slopes."""
    return tuple([whole_part(i) for i in range(slopes_of(ridge))])


def unseen_end(ridge, h, part, x):
    """Where the spots of the part end that no drone up to x sees; None if there are none. Of none, x is None."""
    i, a, b = part
    if x is None:
        return b
    t = first_left(ridge, h, i, x)
    if t is None:
        return b
    if compared(t, a) <= 0:
        return None
    return least_of((t, b))


def unseen_parts(ridge, h, parts, x):
    """The list of the quadruples (i, a, c, R_i(c)) for the parts with spots from a to c that are not seen yet."""
    found = []
    for part in parts:
        c = unseen_end(ridge, h, part, x)
        if c is not None:
            i, a, _ = part
            found.append((i, a, c, slope_reach(ridge, h, i, c)[1]))
    return found


def next_drone(ridge, h, parts, x):
    """Where the next drone stands, behind one at x or, with None, as the first one; None if all is seen."""
    ends = [end for _, _, _, end in unseen_parts(ridge, h, parts, x)]
    if not ends:
        return None
    return least_of(tuple(ends))


def cover_for(ridge, h, parts):
    """The fewest drones that see these parts."""
    drones = []
    x = next_drone(ridge, h, parts, None)
    while x is not None:
        drones.append(x)
        x = next_drone(ridge, h, parts, x)
    return tuple(drones)


def fewest_for(ridge, h, parts):
    """How many drones it takes to see these parts."""
    return len(cover_for(ridge, h, parts))


def paper_spot(ridge, h, part, later):
    """The spot of the paper for a part (i, a, c, R_i(c)): the first inwards whose reach ends ahead of the place later.

    For the last drone later is None.
    """
    i, a, c, _ = part
    n = 2
    while True:
        t = lessened(c, divided(lessened(c, a), (n, 1)))
        if later is None or compared(slope_reach(ridge, h, i, t)[1], later) < 0:
            return (i, t)
        n = 2 * n


def paper_for(ridge, h, parts):
    """For each drone of the cover a spot of these parts, no two of which one drone sees."""
    ahead = None
    reasons = []
    for x in cover_for(ridge, h, parts):
        reasons.append([part for part in unseen_parts(ridge, h, parts, ahead) if part[3] == x][0])
        ahead = x
    spots = []
    later = None
    for part in reversed(reasons):
        i, t = paper_spot(ridge, h, part, later)
        spots.append((i, t))
        later = slope_reach(ridge, h, i, t)[0]
    return tuple(spots[::-1])


def cover(ridge, h):
    """The fewest drones that see the whole ground."""
    return cover_for(ridge, h, whole_ground(ridge))


def fewest(ridge, h):
    """How many drones it takes to see the whole ground."""
    return fewest_for(ridge, h, whole_ground(ridge))


def paper(ridge, h):
    """For each drone of the cover a ground spot, no two of which one drone sees."""
    return paper_for(ridge, h, whole_ground(ridge))


def are_drones(ridge, value):
    """Whether any value is an ascending tuple of unlike places of the line."""
    if not isinstance(value, tuple):
        return False
    for x in value:
        if not is_place(ridge, x):
            return False
    for k in range(1, len(value)):
        if compared(value[k - 1], value[k]) >= 0:
            return False
    return True


def judge_cover_for(ridge, h, parts, value):
    """None if any value is drones that see these parts, else the first fault."""
    if not are_drones(ridge, value):
        return ("form",)
    dark = dark_within(ridge, h, value, parts)
    if dark:
        return ("dark", dark[0])
    return None


def judge_cover(ridge, h, value):
    """None if any value is drones that see the whole ground, else the first fault."""
    return judge_cover_for(ridge, h, whole_ground(ridge), value)


def is_spot_within(ridge, parts, value):
    """Whether any value is a ground spot in one of the parts, their ends too."""
    if not is_ground_spot(ridge, value):
        return False
    for i, a, b in parts:
        if i == value[0] and compared(a, value[1]) <= 0 and compared(value[1], b) <= 0:
            return True
    return False


def judge_paper_for(ridge, h, parts, value):
    """None if any value is spots of these parts, the reach of each behind that of the one ahead, else the fault."""
    if not isinstance(value, tuple):
        return ("form",)
    for ground in value:
        if not is_spot_within(ridge, parts, ground):
            return ("form",)
    found = reaches(ridge, h, value)
    for k in range(1, len(found)):
        if compared(found[k - 1][1], found[k][0]) >= 0:
            return ("meets", k - 1)
    return None


def judge_paper(ridge, h, value):
    """None if any value is ground spots, the reach of each behind that of the one ahead, else the first fault."""
    return judge_paper_for(ridge, h, whole_ground(ridge), value)


def steepest(ridge):
    """The greatest amount of a slope's steepness."""
    return greatest_steepness(ridge)


def sure_step(ridge, h):
    """How far a drone sees at least to either side; None if all slopes are level."""
    return sure_distance(ridge, h)


def most_drones(ridge, h):
    """A number that the fewest drones are never above."""
    step = sure_step(ridge, h)
    if step is None:
        return 1
    start, end = line_of(ridge)
    return whole_below(divided(lessened(end, start), multiplied((2, 1), step))) + 2
