"""Rooms: tuples of three or more spots, their corners, against the clock; wall i goes from corner i to the next."""

from ridgewatch.fractions import HALF, NOUGHT, compared, compared_rows, multiplied, turned
from ridgewatch.ridges import shifted, stretched
from ridgewatch.spots import area_twice, do_meet, is_between, is_spot, side_of, spot_between, way


def wall_ends(room, i):
    """The pair of the corners from which, and to which, wall i goes."""
    return (room[i], room[i + 1 - len(room)])


def is_spots(value):
    """Whether any value is a tuple of three or more spots."""
    if not isinstance(value, tuple) or len(value) < 3:
        return False
    for spot in value:
        if not is_spot(spot):
            return False
    return True


def first_twice(spots):
    """The least pair of numbers of equal spots; None if there is none."""
    for i in range(len(spots)):
        for j in range(i + 1, len(spots)):
            if spots[i] == spots[j]:
                return (i, j)
    return None


def corner_turn(room, i):
    """1, 0 or -1 if the way over corner i turns to the left, goes in one line, or turns to the right."""
    return side_of(room[i - 1], room[i], room[i + 1 - len(room)])


def corners_turning(room, turn):
    """The numbers of the corners with this turn."""
    return tuple([i for i in range(len(room)) if corner_turn(room, i) == turn])


def are_neighbours(room, i, j):
    """Whether of the corners, or walls, i and j, i below j, one comes just behind the other."""
    return j - i == 1 or j - i == len(room) - 1


def first_meet(room):
    """The least pair of walls that are no neighbours and have a spot in common; None if there is none."""
    for i in range(len(room)):
        a, b = wall_ends(room, i)
        for j in range(i + 1, len(room)):
            c, d = wall_ends(room, j)
            if not are_neighbours(room, i, j) and do_meet(a, b, c, d):
                return (i, j)
    return None


def judge_room(value):
    """None if any value is a room, else the first fault."""
    if not is_spots(value):
        return ("form",)
    twice = first_twice(value)
    if twice is not None:
        return ("twice", twice[0], twice[1])
    straight = corners_turning(value, 0)
    if straight:
        return ("straight", straight[0])
    meet = first_meet(value)
    if meet is not None:
        return ("meet", meet[0], meet[1])
    if compared(area_twice(value), NOUGHT) < 0:
        return ("clock",)
    return None


def is_room(value):
    """Whether any value is a room."""
    return judge_room(value) is None


def area(room):
    """The area of the room."""
    return multiplied(HALF, area_twice(room))


def place_in(room, spot):
    """Where the spot lies: at a corner, on a wall, inside or outside."""
    if spot in room:
        return ("corner", room.index(spot))
    inside = False
    for i in range(len(room)):
        a, b = wall_ends(room, i)
        if is_between(a, b, spot):
            return ("wall", i)
        rises = compared(a[1], spot[1]) <= 0
        # A level way to the right crosses the wall: one of its ends is above it, and the spot on the wall's near side.
        if rises != (compared(b[1], spot[1]) <= 0) and (side_of(a, b, spot) > 0) == rises:
            inside = not inside
    if inside:
        return ("inside",)
    return ("outside",)


def is_in(room, spot):
    """Whether the spot is not outside."""
    return place_in(room, spot) != ("outside",)


def reflex_corners(room):
    """The numbers of the corners at which the walls turn to the right."""
    return corners_turning(room, -1)


def convex_corners(room):
    """The numbers of the corners at which the walls turn to the left."""
    return corners_turning(room, 1)


def is_dentless(room):
    """Whether there are no reflex corners."""
    return reflex_corners(room) == ()


def begun_at(room, i):
    """The same room with corner i as corner 0."""
    return room[i:] + room[:i]


def home(room):
    """The same room begun at the corner with the least x, of these with the least y."""
    best = 0
    for i in range(1, len(room)):
        if compared_rows(room[i], room[best]) < 0:
            best = i
    return begun_at(room, best)


def same_room(one, other):
    """Whether both are one room, begun anywhere."""
    return home(one) == home(other)


def moved_room(room, dx, dy):
    """The room moved by dx and dy."""
    return shifted(room, dx, dy)


def scaled_room(room, f):
    """The room f times as wide and as high."""
    return stretched(room, f, f)


def posed_room(room, t):
    """The room mirrored first if t is 4 or more, then quarter-turned as often as t modulo 4 tells."""
    posed = room
    if t >= 4:
        posed = tuple([(turned(x), y) for x, y in room[:1] + room[:0:-1]])
    for _ in range(t % 4):
        posed = tuple([(turned(y), x) for x, y in posed])
    return posed


def pose_of(one, other):
    """The least (t, dx, dy) such that one, posed by t and then moved, is the other room; None if there is none."""
    goal = home(other)
    for t in range(8):
        posed = home(posed_room(one, t))
        dx, dy = way(posed[0], goal[0])
        if moved_room(posed, dx, dy) == goal:
            return (t, dx, dy)
    return None


def is_inner_way(room, i, j):
    """Whether the way between corners i and j, i below j, is in the room and touches walls with its ends alone."""
    one, other = room[i], room[j]
    for k in range(len(room)):
        ends = wall_ends(room, k)
        # A wall at one of both corners would touch the way elsewhere only with its other end: the next wall tells.
        if one not in ends and other not in ends and do_meet(one, other, ends[0], ends[1]):
            return False
    return place_in(room, spot_between(one, other, HALF)) == ("inside",)


def inner_pairs(room):
    """The ascending tuple of the pairs (i, j), i below j, of corners with an inner way between."""
    many = len(room)
    return tuple([(i, j) for i in range(many) for j in range(i + 1, many) if is_inner_way(room, i, j)])


def goes_on(room, i, j):
    """Whether corners i and j lie in one line with a neighbour of either."""
    after = 1 - len(room)
    for k in (i - 1, i + after, j - 1, j + after):
        if side_of(room[i], room[j], room[k]) == 0:
            return True
    return False


def diagonals(room):
    """The ascending tuple of the pairs of corners between which a diagonal runs."""
    return tuple([(i, j) for i, j in inner_pairs(room) if not goes_on(room, i, j)])


def cut_room(room, i, j):
    """The pair of the rooms on both sides of the diagonal (i, j)."""
    return (room[i:j + 1], room[j:] + room[:i + 1])
