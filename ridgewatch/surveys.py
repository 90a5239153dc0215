"""Ridges looked at from several heights and side by side, and reports of the fewest drones."""

from ridgewatch.drones import cover, fewest, judge_cover, judge_paper, paper
from ridgewatch.fractions import HALF, ONE, added, compared, greatest_of, is_pair, is_whole, multiplied, order_of
from ridgewatch.ground import stretch_of
from ridgewatch.ridges import ground_at, is_place, line_of, mirrored, plain, shifted, slopes_of, stretched
from ridgewatch.sight import seen_by
from ridgewatch.spots import crossing, height_at


def survey(ridge, heights):
    """The list of the triples of each height, the fewest drones at it, and their places."""
    covers = [cover(ridge, h) for h in heights]
    return [(h, len(drones), drones) for h, drones in zip(heights, covers)]


def numbers_of(ridge, heights):
    """The list of the fewest drones at each height."""
    return [fewest(ridge, h) for h in heights]


def least_height(ridge, heights, k):
    """The least of the heights at which at most k drones are enough; None if there is none."""
    # With a greater height the fewest are no more.
    for j in order_of([(h,) for h in heights]):
        if fewest(ridge, heights[j]) <= k:
            return heights[j]
    return None


def slope_ends(ridge):
    """The list of the pairs of the corners from which, and to which, each slope goes."""
    return [(ridge[i], ridge[i + 1]) for i in range(slopes_of(ridge))]


def height_over(ridge, x):
    """The greatest height at which one of the endless lines along the slopes has this x."""
    return greatest_of(tuple([height_at(a, b, x) for a, b in slope_ends(ridge)]))


def turning_places(ridge):
    """The places of the line at which two of the lines along the slopes cross, and its ends."""
    places = list(line_of(ridge))
    ends = slope_ends(ridge)
    for a, b in ends:
        for c, d in ends:
            spot = crossing(a, b, c, d)
            if spot is not None and is_place(ridge, spot[0]):
                places.append(spot[0])
    return places


def one_height(ridge):
    """The pair (h, x) of the least height at which one drone is enough, and of the least place for it.

    It may be at the ridge's top, or below it.
    """
    # The greatest of the lines sinks, and then rises: it is least where two of them cross, or at an end.
    rows = [(height_over(ridge, x), x) for x in turning_places(ridge)]
    return rows[order_of(rows)[0]]


def like_others(ridge, height):
    """The list of the triples (word, ridge, height) of ridges for which the fewest drones are as many."""
    dx, dy, a, b = ONE, (2, 1), HALF, (3, 1)
    return [
        ("mirrored", mirrored(ridge), height),
        ("shifted", shifted(ridge, dx, dy), added(height, dy)),
        ("stretched", stretched(ridge, a, b), multiplied(height, b)),
        ("plain", plain(ridge), height),
    ]


def fewest_told(ridge, height):
    """The triple of the number of the fewest drones, their places, and the paper that shows that no fewer do."""
    drones = cover(ridge, height)
    return (len(drones), drones, paper(ridge, height))


def tight_of(ridge, height, drones):
    """The pairs (k, stretch) that tell for each drone how far it may be moved."""
    return tuple([(k, stretch_of(ridge, height, drones, k)) for k in range(len(drones))])


def report(ridge, height):
    """The report (number, cover, paper, tight) of the ridge at this height."""
    number, drones, spots = fewest_told(ridge, height)
    return (number, drones, spots, tight_of(ridge, height, drones))


def is_member(value, pair):
    """Whether any value is just this pair (k, stretch)."""
    if not isinstance(value, tuple) or len(value) != 2:
        return False
    return is_whole(value[0]) and is_pair(value[1]) and value == pair


def first_untight(value, told):
    """The least k for which any tuple has not just the member that is told, or one too many; None if there is none."""
    for k in range(len(told)):
        if k >= len(value) or not is_member(value[k], told[k]):
            return k
    if len(value) > len(told):
        return len(told)
    return None


def judge_report(ridge, height, value):
    """None if any value is a report of the ridge at this height, with any cover and any paper, else the first fault."""
    if not isinstance(value, tuple) or len(value) != 4 or not is_whole(value[0]) or not isinstance(value[3], tuple):
        return ("form",)
    number, drones, spots, tight = value
    fault = judge_cover(ridge, height, drones)
    if fault is not None:
        return ("cover", fault)
    fault = judge_paper(ridge, height, spots)
    if fault is not None:
        return ("paper", fault)
    if len(drones) != number or len(spots) != number:
        return ("number",)
    k = first_untight(tight, tight_of(ridge, height, drones))
    if k is not None:
        return ("tight", k)
    return None


def compared_ridges(one, other, height):
    """-1, 0 or 1 if the fewest drones of one are less than those of the other, as many, or more."""
    return compared((fewest(one, height), 1), (fewest(other, height), 1))


def ranked(ridges, height):
    """The ascending tuple of the pairs of the fewest drones of each ridge and of its number in the list."""
    return tuple(sorted([(fewest(ridges[k], height), k) for k in range(len(ridges))]))


def crowded(ridge, height):
    """The slopes with a ground spot of the paper."""
    slopes = [i for i, _ in paper(ridge, height)]
    return tuple([i for i in range(slopes_of(ridge)) if i in slopes])


def seen_rows(ridge, heights, drones):
    """The list of how many of the corners some of the drones see, at each height."""
    corners = [ground_at(ridge, x) for x, _ in ridge]
    return [len([g for g in corners if seen_by(ridge, h, drones, g)]) for h in heights]


def combs(k):
    """The pair of a ridge of k valleys and a height at which the fewest drones are just k."""
    corners = [(0, 10)]
    for j in range(k):
        corners.extend([(3 * j + 1, 0), (3 * j + 2, 10), (3 * j + 3, 10)])
    # Behind the last valley there is no flat ground.
    return (tuple([((x, 1), (y, 1)) for x, y in corners[:-1]]), (11, 1))
