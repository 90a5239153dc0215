"""Cameras chosen from a list, the fewest that see all spots, and cases that show that no fewer do.

A choice (n, lots) has n spots, numbered from 0 on, and for each camera the lot of the spots that it sees.
"""

from itertools import combinations

from ridgewatch.fractions import are_numbers, is_whole
from ridgewatch.shares import in_order
from ridgewatch.sight import reaches, sees
from ridgewatch.views import sees_in


def is_choice(value):
    """Whether any value is a choice."""
    if not isinstance(value, tuple) or len(value) != 2:
        return False
    many, lots = value
    if not is_whole(many) or many < 0 or not isinstance(lots, tuple):
        return False
    for lot in lots:
        if not are_numbers(lot, many):
            return False
    return True


def choice_of_ridge(ridge, h, drones, spots):
    """The choice of drones, the cameras, by which of the ground spots each one sees."""
    many = len(spots)
    return (many, tuple([tuple([j for j in range(many) if sees(ridge, h, x, spots[j])]) for x in drones]))


def choice_of_room(room, cameras, spots):
    """The choice of the cameras by which of the spots in the room each one sees."""
    many = len(spots)
    return (many, tuple([tuple([j for j in range(many) if sees_in(room, camera, spots[j])]) for camera in cameras]))


def sees_spot(choice, spot):
    """The cameras that see the spot."""
    lots = choice[1]
    return tuple([c for c in range(len(lots)) if spot in lots[c]])


def all_spots(choice):
    """The tuple of all spots."""
    return tuple(range(choice[0]))


def all_cameras(choice):
    """The tuple of all cameras."""
    return tuple(range(len(choice[1])))


def watchers_of(choice):
    """For each spot the cameras that see it."""
    return [sees_spot(choice, j) for j in all_spots(choice)]


def spots_seen(choice, cameras):
    """The spots that the cameras see together."""
    seen = {}
    for c in cameras:
        for j in choice[1][c]:
            seen[j] = True
    return tuple(sorted(seen))


def without(numbers, lot):
    """The tuple of those of the numbers that are not in the lot."""
    return tuple([number for number in numbers if number not in lot])


def unseen_by(choice, cameras):
    """The spots that none of the cameras sees."""
    return without(all_spots(choice), spots_seen(choice, cameras))


def unseen(choice):
    """The spots that no camera sees."""
    return unseen_by(choice, all_cameras(choice))


def see_each(watchers, cameras, r):
    """Whether of each spot's watchers at least r are among the cameras."""
    for lot in watchers:
        if len([c for c in lot if c in cameras]) < r:
            return False
    return True


def fewest_seeing(choice, r):
    """The least of the tuples of as few cameras as can be of which each spot is seen by at least r.

    None if there is none.
    """
    watchers = watchers_of(choice)
    everyone = all_cameras(choice)
    if not see_each(watchers, everyone, r):
        return None
    for many in range(len(everyone)):
        for cameras in combinations(range(len(everyone)), many):
            if see_each(watchers, cameras, r):
                return cameras
    return everyone


def fewest_cameras(choice):
    """The least of the covers with the fewest cameras; None if there is no cover."""
    return fewest_seeing(choice, 1)


def judge_cameras(choice, value):
    """None if any value is a cover, else the first fault."""
    if not are_numbers(value, len(choice[1])):
        return ("form",)
    spots = unseen_by(choice, value)
    if spots:
        return ("spot", spots[0])
    return None


def first_with_both(choice, i, j):
    """The least camera that sees both spots; None if there is none."""
    lots = choice[1]
    for c in range(len(lots)):
        if i in lots[c] and j in lots[c]:
            return c
    return None


def longest_hidden(choice, taken, rest, best):
    """The least of the longest hidden spots that are those taken and some of the rest, if they are more than the best.

    Else the best. Each of the rest is seen by some camera, but by none that sees one of those taken.
    """
    if len(taken) + len(rest) <= len(best):
        return best
    if not rest:
        return taken
    spot, others = rest[0], rest[1:]
    apart = tuple([j for j in others if first_with_both(choice, spot, j) is None])
    best = longest_hidden(choice, taken + (spot,), apart, best)
    return longest_hidden(choice, taken, others, best)


def hidden_among(choice, spots):
    """The least of the longest hidden spots that are among the spots, each of which some camera sees."""
    return longest_hidden(choice, (), spots, ())


def most_hidden(choice):
    """The least of the hidden spots that are the most."""
    return hidden_among(choice, spots_seen(choice, all_cameras(choice)))


def judge_hidden(choice, value):
    """None if any value is hidden spots, else the first fault."""
    if not are_numbers(value, choice[0]):
        return ("form",)
    for j in value:
        if sees_spot(choice, j) == ():
            return ("unseen", j)
    for i in value:
        for j in value:
            if i < j:
                c = first_with_both(choice, i, j)
                if c is not None:
                    return ("both", i, j, c)
    return None


def cases_within(choice, left, m):
    """Cases that m cameras can't see all of the spots that are left, which is so."""
    hidden = hidden_among(choice, left)
    if len(hidden) > m:
        return ("hidden", hidden[:m + 1])
    # The fewer cameras see the spot, the fewer cases there are.
    watchers = [(len(sees_spot(choice, j)), j) for j in left]
    spot = min(watchers)[1]
    lots = [choice[1][c] for c in sees_spot(choice, spot)]
    return ("split", spot, tuple([cases_within(choice, without(left, lot), m - 1) for lot in lots]))


def cases_for(choice, m):
    """Any cases that show that no cover has at most m cameras; None if one has."""
    if len(fewest_cameras(choice)) <= m:
        return None
    return cases_within(choice, all_spots(choice), m)


def is_row(value, word, many):
    """Whether any value is a tuple of so many members, the first of which is the word and the last a tuple."""
    return isinstance(value, tuple) and len(value) == many and value[0] == word and isinstance(value[-1], tuple)


def judge_within(choice, left, m, value, way):
    """The first fault of cases for m with these spots left, to which the way leads; None if there is none."""
    if is_row(value, "hidden", 2):
        spots = value[1]
        if len(spots) != m + 1 or judge_hidden(choice, spots) is not None or without(spots, left):
            return ("hidden", way)
        return None
    if not is_row(value, "split", 3) or not is_whole(value[1]) or value[1] < 0:
        return ("form", way)
    _, spot, branches = value
    cameras = sees_spot(choice, spot)
    if m == 0 or spot not in left or len(branches) != len(cameras):
        return ("split", way)
    for k in range(len(branches)):
        rest = without(left, choice[1][cameras[k]])
        fault = judge_within(choice, rest, m - 1, branches[k], way + (k,))
        if fault is not None:
            return fault
    return None


def judge_cases(choice, m, value):
    """None if any value is cases for m, else the fault with the least way, the first one there."""
    return judge_within(choice, all_spots(choice), m, value, ())


def verdict(choice):
    """The triple of the number of the fewest cameras, of them, and of cases that show that no fewer do.

    None if there is no cover.
    """
    cover = fewest_cameras(choice)
    if cover is None:
        return None
    if cover == ():
        return (0, (), ())
    return (len(cover), cover, cases_for(choice, len(cover) - 1))


def judge_verdict(choice, value):
    """None if any value is a verdict, else the first fault."""
    if not isinstance(value, tuple) or len(value) != 3 or not is_whole(value[0]) or value[0] < 0:
        return ("form",)
    k, cover, cases = value
    fault = judge_cameras(choice, cover)
    if fault is not None:
        return ("cover", fault)
    if len(cover) != k:
        return ("many",)
    if k == 0:
        if cases != ():
            return ("form",)
        return None
    fault = judge_cases(choice, k - 1, cases)
    if fault is not None:
        return ("cases", fault)
    return None


def gap(choice):
    """How many more the fewest cameras are than the most hidden spots; None without a cover."""
    cover = fewest_cameras(choice)
    if cover is None:
        return None
    return len(cover) - len(most_hidden(choice))


def right_ends(ridge, h, spots):
    """The right ends of the reaches of the ground spots, ascending, each once."""
    return in_order([right for _, right in reaches(ridge, h, spots)])
