"""What drones on the line at height h see of a ridge's ground spots."""

from ridgewatch.fractions import compared, greatest_of, is_pair, least_of, order_of, turned
from ridgewatch.ridges import line_of, mirrored, mirrored_ground, slopes_of, spot_of
from ridgewatch.spots import height_at, place_at


def is_barring(eye, spot, corner):
    """Whether the corner stands between both, above the straight line from the one to the other."""
    if compared(eye[0], corner[0]) * compared(corner[0], spot[0]) <= 0:
        return False
    return compared(corner[1], height_at(eye, spot, corner[0])) > 0


def barring(ridge, h, x, g):
    """The numbers of all corners that bar the sight from the drone x to the ground spot g."""
    spot = spot_of(ridge, g)
    return tuple([k for k in range(len(ridge)) if is_barring((x, h), spot, ridge[k])])


def sees(ridge, h, x, g):
    """Whether the drone x sees the ground spot g."""
    return barring(ridge, h, x, g) == ()


def seen_by(ridge, h, drones, g):
    """Those of the drones that see the ground spot g, in their order."""
    return tuple([x for x in drones if sees(ridge, h, x, g)])


def left_sights(ridge, h, spot):
    """For each corner to the left of the spot and higher, the pair of its number and of the place at which the line
    through both meets height h. The steeper the line, the greater the place."""
    found = []
    for k in range(len(ridge)):
        corner = ridge[k]
        if compared(corner[0], spot[0]) < 0 and compared(corner[1], spot[1]) > 0:
            found.append((k, place_at(spot, corner, h)))
    return found


def left_end(ridge, h, g):
    """The left end of the spot's reach."""
    places = [place for _, place in left_sights(ridge, h, spot_of(ridge, g))]
    return greatest_of(tuple([line_of(ridge)[0]] + places))


def reach(ridge, h, g):
    """The pair (L, R): just the drones from L to R see the ground spot g."""
    return (left_end(ridge, h, g), turned(left_end(mirrored(ridge), h, mirrored_ground(ridge, g))))


def left_corner(ridge, h, g):
    """The nearest corner through which the sight to the left end goes; None if the line ends ahead of its place."""
    end = left_end(ridge, h, g)
    nearest = None
    for k, place in left_sights(ridge, h, spot_of(ridge, g)):
        if place == end:
            nearest = k
    return nearest


def bar_corners(ridge, h, g):
    """The pair of the corners through which the sights to both ends of the reach go."""
    right = left_corner(mirrored(ridge), h, mirrored_ground(ridge, g))
    if right is not None:
        right = slopes_of(ridge) - right
    return (left_corner(ridge, h, g), right)


def judge_reach(ridge, h, g, value):
    """None if any value is the reach of g, else the first fault."""
    if not is_pair(value):
        return ("form",)
    left, right = reach(ridge, h, g)
    if value[0] != left:
        return ("left",)
    if value[1] != right:
        return ("right",)
    return None


def reaches(ridge, h, spots):
    """The list of the reaches of the ground spots."""
    return [reach(ridge, h, g) for g in spots]


def common_reach(ridge, h, spots):
    """The greatest L and the least R of the reaches of one or more ground spots."""
    found = reaches(ridge, h, spots)
    return (greatest_of(tuple([left for left, _ in found])), least_of(tuple([right for _, right in found])))


def are_parted(one, other):
    """Whether two reaches have no place in common."""
    return compared(one[1], other[0]) < 0 or compared(other[1], one[0]) < 0


def first_apart(ridge, h, spots):
    """The least pair of numbers of members of which no drone sees both; None if there is none."""
    found = reaches(ridge, h, spots)
    for j in range(len(found)):
        for k in range(j + 1, len(found)):
            if are_parted(found[j], found[k]):
                return (j, k)
    return None


def by_right_end(found):
    """The numbers of the reaches by R, of equal ones by L, of equal ones in their order."""
    return order_of([(right, left) for left, right in found])


def are_apart(ridge, h, spots):
    """Whether no drone sees two members."""
    found = reaches(ridge, h, spots)
    order = by_right_end(found)
    # By R, two side by side that are parted lie one behind the other: if all such are, each lies behind all ahead.
    for k in range(1, len(order)):
        if not are_parted(found[order[k - 1]], found[order[k]]):
            return False
    return True


def left_to_right(ridge, h, spots):
    """The list of the members by R, of equal ones by L, of equal ones in their order."""
    return [spots[k] for k in by_right_end(reaches(ridge, h, spots))]
