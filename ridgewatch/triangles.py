"""Rooms cut into triangles, triples of numbers of corners, and the tree that these make."""

from ridgewatch.fractions import are_numbers
from ridgewatch.rooms import are_neighbours, inner_pairs
from ridgewatch.sides import lies_in_form
from ridgewatch.spots import side_of


def inner_ways(room):
    """The pairs (i, j) of corners between which an inner way runs."""
    return inner_pairs(room)


def is_ear(room, left, k):
    """Whether member k of the corners that are left is an ear of what is left."""
    triple = (left[k - 1], left[k], left[k + 1 - len(left)])
    triangle = tuple([room[i] for i in triple])
    if side_of(triangle[0], triangle[1], triangle[2]) <= 0:
        return False
    for i in left:
        if i not in triple and lies_in_form(triangle, room[i]):
            return False
    return True


def ears(room):
    """The numbers of the ears of the whole room."""
    corners = tuple(range(len(room)))
    return tuple([k for k in corners if is_ear(room, corners, k)])


def triangles(room):
    """The cut that comes if the ear with the least number is cut off, again and again."""
    left = tuple(range(len(room)))
    found = []
    while len(left) > 3:
        k = 0
        while not is_ear(room, left, k):
            k += 1
        found.append(tuple(sorted([left[k - 1], left[k], left[k + 1 - len(left)]])))
        left = left[:k] + left[k + 1:]
    return tuple(sorted(found + [left]))


def is_triple(room, value):
    """Whether any value is an ascending triple of unlike numbers of corners."""
    return are_numbers(value, len(room)) and len(value) == 3


def are_triples(room, value):
    """Whether any value is an ascending tuple of unlike such triples."""
    if not isinstance(value, tuple):
        return False
    for triple in value:
        if not is_triple(room, triple):
            return False
    for k in range(1, len(value)):
        if value[k - 1] >= value[k]:
            return False
    return True


def has_right_sides(room, ways, triple):
    """Whether each side of the triangle is one of the inner ways, or a wall."""
    i, j, k = triple
    for pair in ((i, j), (j, k), (i, k)):
        if pair not in ways and not are_neighbours(room, pair[0], pair[1]):
            return False
    return True


def is_beyond(one, other):
    """Whether all of the other triangle lies on or beyond the line of some side of one, both against the clock."""
    for k in range(3):
        sides = [side_of(one[k - 1], one[k], spot) for spot in other]
        if max(sides) <= 0:
            return True
    return False


def first_overlap(room, cut):
    """The least pair of triangles with a common spot that is on no side of one of them; None if there is none."""
    # Round triangles with right sides the corners of a room go, as they ascend, against the clock.
    shapes = [tuple([room[i] for i in triple]) for triple in cut]
    for j in range(len(shapes)):
        for k in range(j + 1, len(shapes)):
            if not is_beyond(shapes[j], shapes[k]) and not is_beyond(shapes[k], shapes[j]):
                return (j, k)
    return None


def judge_cut(room, value):
    """None if any value is a cut of the room, else the first fault."""
    if not are_triples(room, value):
        return ("form",)
    if len(value) != len(room) - 2:
        return ("many", len(value))
    ways = inner_pairs(room)
    for k in range(len(value)):
        if not has_right_sides(room, ways, value[k]):
            return ("side", k)
    meet = first_overlap(room, value)
    if meet is not None:
        return ("meet", meet[0], meet[1])
    return None


def are_next(one, other):
    """Whether two triangles have two corners in common."""
    return len([i for i in one if i in other]) == 2


def next_pairs(cut):
    """The pairs (j, k) of numbers of triangles that are next to one another."""
    many = len(cut)
    return tuple([(j, k) for j in range(many) for k in range(j + 1, many) if are_next(cut[j], cut[k])])


def next_to(cut, k):
    """The numbers of the triangles that are next to number k."""
    return [j for j in range(len(cut)) if are_next(cut[j], cut[k])]


def way_through(cut, j, k):
    """The one way through the cut from triangle j to triangle k, as numbers of triangles."""
    # From its end, so that each triangle tells which one comes behind it.
    behind = {k: None}
    waiting = [k]
    while waiting:
        at = waiting.pop()
        for other in next_to(cut, at):
            if other not in behind:
                behind[other] = at
                waiting.append(other)
    found = []
    at = j
    while at is not None:
        found.append(at)
        at = behind[at]
    return tuple(found)


def leaves_of(cut):
    """The numbers of the triangles with at most one that is next to it."""
    return tuple([k for k in range(len(cut)) if len(next_to(cut, k)) <= 1])
