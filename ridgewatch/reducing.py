"""Choices made smaller, the most spots that some cameras see, and cameras of which each spot is seen by several."""

from itertools import combinations

from ridgewatch.choosing import all_cameras, all_spots, fewest_seeing, sees_spot, spots_seen, watchers_of, without


def is_part(lot, other):
    """Whether all of a lot is in the other one."""
    return without(lot, other) == ()


def spare_among(choice, cameras, spots):
    """Those of the cameras that are spare where these cameras and spots are left."""
    lots = [tuple([j for j in choice[1][c] if j in spots]) for c in cameras]
    found = []
    for k in range(len(lots)):
        for other in range(len(lots)):
            if is_part(lots[k], lots[other]) and (-len(lots[other]), other) < (-len(lots[k]), k):
                found.append(cameras[k])
                break
    return tuple(found)


def easy_among(choice, cameras, spots):
    """Those of the spots that are easy where these cameras and spots are left."""
    watchers = [tuple([c for c in sees_spot(choice, j) if c in cameras]) for j in spots]
    found = []
    for k in range(len(watchers)):
        for other in range(len(watchers)):
            lot = watchers[other]
            if lot and is_part(lot, watchers[k]) and (len(lot), other) < (len(watchers[k]), k):
                found.append(spots[k])
                break
    return tuple(found)


def spare_cameras(choice):
    """The cameras for which there is one that sees more, or just the same with a lesser number."""
    return spare_among(choice, all_cameras(choice), all_spots(choice))


def easy_spots(choice):
    """The spots that are seen wherever another spot is, which fewer cameras see, or as many with a lesser number."""
    return easy_among(choice, all_cameras(choice), all_spots(choice))


def smaller(choice):
    """The cameras and the spots that are left without easy spots, then spare cameras, again and again."""
    cameras, spots = all_cameras(choice), all_spots(choice)
    while True:
        easy = easy_among(choice, cameras, spots)
        spots = without(spots, easy)
        spare = spare_among(choice, cameras, spots)
        cameras = without(cameras, spare)
        if not easy and not spare:
            return (cameras, spots)


def needed_cameras(choice):
    """The cameras that are the only one to see some spot."""
    watchers = watchers_of(choice)
    return tuple([c for c in all_cameras(choice) if (c,) in watchers])


def most_seen(choice, k):
    """The most spots that at most k cameras see, and the least of the tuples of as few cameras as can be that do."""
    most, best = 0, ()
    everyone = all_cameras(choice)
    for many in range(min(k, len(everyone)) + 1):
        for cameras in combinations(range(len(everyone)), many):
            seen = len(spots_seen(choice, cameras))
            if seen > most:
                most, best = seen, cameras
    return (most, best)


def fewest_for_each(choice, r):
    """The least of the tuples of as few cameras as can be of which each spot is seen by at least r; None without."""
    return fewest_seeing(choice, r)
