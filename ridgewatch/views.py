"""What cameras see in rooms. A camera is a spot in a room; a part (i, t, u) is wall i from share t to share u."""

from ridgewatch.fractions import (
    HALF, NOUGHT, ONE, added, amount, between, compared, divided, greatest_of, lessened, order_of, summed,
)
from ridgewatch.rooms import area, home, is_in, is_room, same_room, wall_ends
from ridgewatch.shares import in_common, in_order, left_out, put_together
from ridgewatch.spots import crossed, crossing_share, is_between, is_spot, side_of, spot_between, way


def way_shares(room, one, other):
    """The shares of the way, 0 and 1 too, at which it may go from the inside to the outside, or back."""
    sides = [side_of(one, other, corner) for corner in room]
    found = [NOUGHT, ONE]
    for i in range(len(room)):
        after = sides[i + 1 - len(room)]
        # Of a wall along the way both neighbours tell the ends.
        if sides[i] != after and sides[i] * after <= 0:
            a, b = wall_ends(room, i)
            t = crossing_share(one, other, a, b)
            if compared(NOUGHT, t) < 0 and compared(t, ONE) < 0:
                found.append(t)
    return in_order(found)


def barred_at(room, one, other):
    """A spot of the way between both that is outside; None if there is none."""
    shares = way_shares(room, one, other)
    for t, u in zip(shares, shares[1:]):
        spot = spot_between(one, other, between(t, u, HALF))
        if not is_in(room, spot):
            return spot
    return None


def sees_in(room, one, other):
    """Whether each spot of the way between both is in the room."""
    return barred_at(room, one, other) is None


def judge_barred(room, one, other, value):
    """None if any value is a spot of the way that is outside, else the first fault."""
    if not is_spot(value):
        return ("form",)
    if not is_between(one, other, value):
        return ("way",)
    if is_in(room, value):
        return ("outside",)
    return None


def turn_of(step):
    """A fraction from 0 up to 4 that grows as the step turns from the right against the clock."""
    x, y = step
    right = divided(x, added(amount(x), amount(y)))
    if compared(y, NOUGHT) < 0:
        return added((3, 1), right)
    return lessened(ONE, right)


def steps_to_corners(room, camera):
    """The ways from the camera to the corners, against the clock, of several in one direction one."""
    steps = [way(camera, corner) for corner in room if corner != camera]
    turns = [turn_of(step) for step in steps]
    found = []
    for k in order_of([(turn,) for turn in turns]):
        if not found or turn_of(found[-1]) != turns[k]:
            found.append(steps[k])
    return found


def ahead_of(spot, step):
    """The spot one step on."""
    return (added(spot[0], step[0]), added(spot[1], step[1]))


def leaving_at(room, camera, step):
    """The number of the wall at which the sight in this direction, to no corner, leaves the room.

    None if it is outside from its beginning: then the nearest wall crosses it the other way round, or there is none.
    """
    ahead = ahead_of(camera, step)
    sides = [side_of(camera, ahead, corner) for corner in room]
    nearest, best = None, None
    for i in range(len(room)):
        if sides[i] * sides[i + 1 - len(room)] >= 0:
            continue
        a, b = wall_ends(room, i)
        t = crossing_share(camera, ahead, a, b)
        if compared(t, NOUGHT) > 0 and (best is None or compared(t, best) < 0):
            nearest, best = i, t
    if nearest is None or sides[nearest] > 0:
        return None
    return nearest


def sights(room, camera):
    """For each two neighbouring ways to corners, against the clock, the part (i, t, u) of a wall that is seen between.

    None between two that look outside.
    """
    steps = steps_to_corners(room, camera)
    found = []
    for one, other in zip(steps, steps[1:] + steps[:1]):
        seen = None
        # Half a turn or more without a corner lies outside.
        if compared(crossed(one, other), NOUGHT) > 0:
            i = leaving_at(room, camera, ahead_of(one, other))
            if i is not None:
                a, b = wall_ends(room, i)
                t = crossing_share(a, b, camera, ahead_of(camera, one))
                seen = (i, t, crossing_share(a, b, camera, ahead_of(camera, other)))
        found.append(seen)
    return found


def wall_parts(room, camera):
    """The greatest parts of walls all of whose spots the camera sees."""
    parts = [[] for _ in room]
    for seen in sights(room, camera):
        if seen is not None:
            i, t, u = seen
            parts[i].append((t, u))
    for i in range(len(room)):
        a, b = wall_ends(room, i)
        # Along its own line a wall is seen whole, or not at all.
        if side_of(a, b, camera) == 0 and sees_in(room, camera, spot_between(a, b, HALF)):
            parts[i].append((NOUGHT, ONE))
    return tuple([(i, t, u) for i in range(len(room)) for t, u in put_together(parts[i])])


def unlit_parts(room, cameras):
    """What is left of the walls when all cameras' seen parts are taken out."""
    parts = [[] for _ in room]
    for camera in cameras:
        for i, t, u in wall_parts(room, camera):
            parts[i].append((t, u))
    return tuple([(i, t, u) for i in range(len(room)) for t, u in left_out(put_together(parts[i]))])


def lit_share(room, cameras):
    """For each wall, what share of it is not dark."""
    unlit = unlit_parts(room, cameras)
    dark = [summed(tuple([lessened(u, t) for k, t, u in unlit if k == i])) for i in range(len(room))]
    return tuple([lessened(ONE, share) for share in dark])


def without_straight(spots):
    """The spots, that go round once, without those that are told twice running, or lie straight on."""
    unlike = [spots[k] for k in range(len(spots)) if spots[k] != spots[k - 1]]
    many = len(unlike)
    return tuple([
        unlike[k] for k in range(many) if side_of(unlike[k - 1], unlike[k], unlike[k + 1 - many]) != 0])


def view(room, camera):
    """The room that the camera sees, without needles, as its home."""
    spots = []
    for seen in sights(room, camera):
        if seen is None:
            spots.append(camera)
        else:
            i, t, u = seen
            a, b = wall_ends(room, i)
            spots.extend([spot_between(a, b, t), spot_between(a, b, u)])
    return home(without_straight(spots))


def view_share(room, camera):
    """The area of the view as a share of that of the room."""
    return divided(area(view(room, camera)), area(room))


def sees_room(room, camera):
    """Whether the camera sees each spot of the room."""
    return same_room(view(room, camera), room)


def judge_view(room, camera, value):
    """None if any value is the view, begun anywhere, else the first fault."""
    if not is_room(value):
        return ("form",)
    for i in range(len(value)):
        if not is_in(room, value[i]):
            return ("room", i)
    for i in range(len(value)):
        if not sees_in(room, camera, value[i]):
            return ("seen", i)
    seen = view(room, camera)
    if area(value) != area(seen):
        return ("area", area(value))
    if not same_room(value, seen):
        return ("other",)
    return None


def seen_from(room, cameras, spot):
    """The numbers of the cameras that see the spot."""
    return tuple([k for k in range(len(cameras)) if sees_in(room, cameras[k], spot)])


def both_see(room, one, other):
    """The greatest parts of walls that both cameras see."""
    found = []
    theirs = wall_parts(room, other)
    for i, t, u in wall_parts(room, one):
        common = [in_common((t, u), (v, w)) for k, v, w in theirs if k == i]
        found.extend([(i, part[0], part[1]) for part in common if part is not None])
    return tuple(found)


def best_camera(room, cameras):
    """The number of the first camera with the greatest view_share."""
    shares = [view_share(room, camera) for camera in cameras]
    return shares.index(greatest_of(tuple(shares)))


def needless_cameras(room, cameras):
    """The numbers of the cameras, each by itself, without which the same parts of walls are unlit."""
    unlit = unlit_parts(room, cameras)
    found = []
    for k in range(len(cameras)):
        others = [cameras[j] for j in range(len(cameras)) if j != k]
        if unlit_parts(room, others) == unlit:
            found.append(k)
    return tuple(found)
