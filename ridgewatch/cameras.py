"""Corners of three colours, cameras at a third of the corners, and combs, rooms that need as many."""

from ridgewatch.choosing import fewest_cameras
from ridgewatch.fractions import is_whole
from ridgewatch.spots import place_at
from ridgewatch.triangles import triangles


def corners_of(cut):
    """How many corners the room has whose cut it is."""
    return len(cut) + 2


def colours(cut):
    """For each corner the colour 0, 1 or 2, with 0, 1, 2 in triangle 0, such that each triangle has all three."""
    found = {}
    for colour in range(3):
        found[cut[0][colour]] = colour
    # Triangles with two corners of one that is coloured come next; so a cut's tree is gone through to its ends.
    while len(found) < corners_of(cut):
        for triple in cut:
            bare = [i for i in triple if i not in found]
            if len(bare) == 1:
                found[bare[0]] = 3 - sum([found[i] for i in triple if i in found])
    return tuple([found[i] for i in range(corners_of(cut))])


def is_colour(value):
    """Whether any value is a colour."""
    return is_whole(value) and 0 <= value <= 2


def are_colours(cut, value):
    """Whether any value gives each corner a colour."""
    if not isinstance(value, tuple) or len(value) != corners_of(cut):
        return False
    for colour in value:
        if not is_colour(colour):
            return False
    return True


def judge_colours(cut, value):
    """None if any value gives each corner a colour and the corners of each triangle unlike ones, else the fault."""
    if not are_colours(cut, value):
        return ("form",)
    for k in range(len(cut)):
        a, b, c = [value[i] for i in cut[k]]
        if a == b or b == c or a == c:
            return ("alike", k)
    return None


def touched(cut, corner):
    """The numbers of the triangles with this corner."""
    return tuple([k for k in range(len(cut)) if corner in cut[k]])


def covers(cut, corners):
    """Whether each triangle has a corner among these."""
    for triple in cut:
        if not [i for i in triple if i in corners]:
            return False
    return True


def cameras(room):
    """The corners of the colour that the fewest corners have, of such the least colour."""
    given = colours(triangles(room))
    counts = [given.count(colour) for colour in range(3)]
    rarest = counts.index(min(counts))
    return tuple([i for i in range(len(room)) if given[i] == rarest])


def fewest_covering(cut):
    """The least of the ascending tuples of the fewest corners among which each triangle has one."""
    # A choice of cameras, the corners, each of which sees the triangles it belongs to.
    return fewest_cameras((len(cut), tuple([touched(cut, i) for i in range(corners_of(cut))])))


def comb(k):
    """The room with k teeth that needs k cameras, a third of its corners."""
    corners = [(0, -1), (3 * k - 1, -1)]
    for j in reversed(range(k)):
        corners.append((3 * j + 1, 3))
        if j > 0:
            corners.extend([(3 * j, 0), (3 * j - 1, 0)])
    return tuple([((x, 1), (y, 1)) for x, y in corners])


def tips(k):
    """The tips of the comb's teeth, from the left."""
    return tuple([((3 * j + 1, 1), (3, 1)) for j in range(k)])


def seeing_tip(k, j):
    """The form of the spots of the comb from which tip j is seen."""
    room = comb(k)
    tip = tips(k)[j]
    i = room.index(tip)
    floor = room[0][1]
    # Both lines of the tip's walls come down to the floor within the comb.
    left = place_at(tip, room[i + 1 - len(room)], floor)
    right = place_at(tip, room[i - 1], floor)
    return ((left, floor), (right, floor), tip)
