"""Promises 8.1 to 8.4."""

import unittest
from fractions import Fraction

from helpers import (
    NONE_AT_ALL, crossing_shares, dice, exact, frac, is_in_by_words, lies_on, nested, numbers, parts, places,
    point_between, room_of, rows_of, sees_by_words, some_points, some_spots_in, spot, spot_told, spots, told, turn,
    where_by_words,
)
from ridgewatch.rooms import area, begun_at, home, is_in, is_room, posed_room, same_room, scaled_room
from ridgewatch.views import (
    barred_at, best_camera, both_see, judge_barred, judge_view, lit_share, needless_cameras, seen_from, sees_in,
    sees_room, unlit_parts, view, view_share, wall_parts,
)

ELL = spots("0,0 4,0 4,2 2,2 2,4 0,4")
SQUARE = spots("0,0 4,0 4,4 0,4")
U = spots("0,0 6,0 6,4 4,4 4,2 2,2 2,4 0,4")
DENTS = spots("-1,-2 1,-2 2,0 3,-2 6,-2 6,2 5,2 4,0 3,2 -1,2")
"""From 0,0 the sight to 6,0 touches the dent below and then the one above."""
A, B, MIDDLE = spot("3,1"), spot("1,3"), spot("1,1")
WHOLE = ((0, 1), (1, 1))


def merged(rows):
    """Pairs that have a share in common, an end too, put together, ascending."""
    found = []
    for t, u in sorted(rows):
        if found and t <= found[-1][1]:
            found[-1] = (found[-1][0], max(u, found[-1][1]))
        else:
            found.append((t, u))
    return found


def seen_by_words(points, p, k):
    """The parts of wall k that 8.2 tells of: looked at between all shares that lie in line with a corner."""
    a, b = rows_of(points)[k]
    shares = crossing_shares(a, b, [(p, c) for c in points if c != p])
    return merged([(t, u) for t, u in zip(shares, shares[1:]) if sees_by_words(points, p, point_between(a, b, (t + u) / 2))])


def dark_by_words(points, cameras, k):
    """What is left of wall k."""
    found, at = [], Fraction(0)
    for t, u in merged([row for p in cameras for row in seen_by_words(points, p, k)]) + [(Fraction(1), Fraction(1))]:
        if at < t:
            found.append((at, t))
        at = u
    return found


def told_parts(rows):
    """For each wall its parts, as they are told."""
    return tuple((k, told(t), told(u)) for k, some in enumerate(rows) for t, u in some)


def view_area(points, p):
    """The area of what is seen from p: the triangles over all seen parts of walls."""
    total = Fraction(0)
    for k, (a, b) in enumerate(rows_of(points)):
        for t, u in seen_by_words(points, p, k):
            total += turn(p, point_between(a, b, t), point_between(a, b, u)) / 2
    return total


def cases(seed, many, corners=8, size=4):
    """Rooms, their points in Python's own numbers, and points in them."""
    rng = dice(seed)
    for _ in range(many):
        points = some_points(rng, rng.randint(3, corners), size)
        inner = some_spots_in(rng, points)
        yield rng, room_of(points), points, rng.sample(inner, min(6, len(inner)))


class Ways(unittest.TestCase):
    def test_sees_in(self):
        for one, other, expected in [
                ("3,1", "1,3", True), ("3,1", "0,4", True), ("3,1", "2,4", False), ("4,2", "2,4", False), ("0,0", "2,2", True),
                ("2,2", "2,4", True), ("2,0", "2,4", True), ("3,2", "1,4", False), ("4,2", "0,2", True), ("4,0", "0,4", True),
                ("3,1", "3,1", True), ("2,2", "2,2", True), ("4,1", "1,4", False), ("0,0", "0,4", True), ("1,0", "3,0", True)]:
            self.assertIs(sees_in(ELL, spot(one), spot(other)), expected, (one, other))
            self.assertIs(sees_in(ELL, spot(other), spot(one)), expected, (one, other))

    def test_along_walls_through_corners_and_touching_from_the_inside(self):
        # Along two walls in one line, with a dent between, and without.
        saw = spots("0,0 6,0 6,2 4,2 3,1 2,2 0,2")
        self.assertIs(sees_in(saw, spot("6,2"), spot("0,2")), False)
        self.assertIs(sees_in(saw, spot("6,2"), spot("4,2")), True)
        self.assertIs(sees_in(saw, spot("6,1"), spot("0,1")), True)
        self.assertIs(sees_in(saw, spot("6,3/2"), spot("0,3/2")), False)
        roof = spots("0,0 6,0 6,2 4,2 3,3 2,2 0,2")
        self.assertIs(sees_in(roof, spot("6,2"), spot("0,2")), True)
        # Between two corners that touch the way from both sides.
        gate = spots("0,0 4,0 4,1 3,2 4,3 4,4 2,4 1,3 2,2 1,1 0,1")
        self.assertIs(is_room(gate), True)
        self.assertIs(sees_in(gate, spot("3,0"), spot("3,4")), True)
        self.assertIs(sees_in(gate, spot("5/2,1/2"), spot("5/2,7/2")), True)
        self.assertIs(sees_in(gate, spot("4,1"), spot("4,3")), False)
        needle = spots("0,0 6,0 3,2 6,4 0,4 2,2")
        self.assertIs(sees_in(needle, spot("0,0"), spot("2,2")), True)
        self.assertIs(sees_in(needle, spot("1,0"), spot("3,4")), True)
        self.assertIs(sees_in(needle, spot("0,0"), spot("4,4")), True)

    def test_by_the_words(self):
        kinds = {True: 0, False: 0}
        for rng, room, points, inner in cases(1, 120, 10):
            for p in inner:
                for q in inner:
                    expected = sees_by_words(points, p, q)
                    one, other = spot_told(p), spot_told(q)
                    self.assertIs(sees_in(room, one, other), expected)
                    bar = barred_at(room, one, other)
                    self.assertEqual(bar is None, expected)
                    if bar is not None:
                        at = (exact(bar[0]), exact(bar[1]))
                        self.assertTrue(lies_on(p, q, at) and at not in (p, q) and not is_in_by_words(points, at))
                        self.assertIsNone(judge_barred(room, one, other, bar))
                    kinds[expected] += 1
        self.assertTrue(min(kinds.values()) > 500, kinds)

    def test_barred_at(self):
        self.assertIsNone(barred_at(ELL, A, B))
        self.assertIsNone(barred_at(ELL, A, A))
        self.assertIsNone(barred_at(ELL, spot("4,2"), spot("0,2")))
        for one, other in (("3,1", "2,4"), ("4,2", "2,4"), ("4,1", "1,4")):
            self.assertIsNone(judge_barred(ELL, spot(one), spot(other), barred_at(ELL, spot(one), spot(other))))

    def test_judge_barred(self):
        one, other = spot("4,1"), spot("2,4")
        for value, expected in [("3,5/2", None), ("8/3,3", None), ("4,1", ("outside",)), ("2,4", ("outside",)), ("3,3", ("way",)),
                                ("1,1", ("way",)), ("14/3,0", ("way",)), ("9/4,29/8", None), ("10/3,2", ("outside",)),
                                ("11/3,3/2", ("outside",)), ("4/3,5", ("way",)), ("3,2", ("way",))]:
            self.assertEqual(judge_barred(ELL, one, other, spot(value)), expected, value)
            self.assertEqual(judge_barred(ELL, other, one, spot(value)), expected, value)

    def test_judge_barred_of_any_value(self):
        for value in NONE_AT_ALL + [nested(30), [frac("3"), frac("3/2")], ((6, 2), (3, 2)), ((3, 1), (3, 2), (0, 1)), ELL,
                                    ((3, True), (3, 2)), ((3, 1), [3, 2])]:
            self.assertEqual(judge_barred(ELL, spot("4,1"), spot("2,4"), value), ("form",), value)
            self.assertEqual(judge_barred(ELL, A, B, value), ("form",), value)
            self.assertEqual(judge_barred(ELL, A, A, value), ("form",), value)

    def test_judge_barred_where_nothing_is_barred(self):
        self.assertEqual([judge_barred(ELL, A, B, spot(at)) for at in ("3,1", "2,2", "1,1", "9,9", "4,0")],
                         [("outside",), ("outside",), ("way",), ("way",), ("way",)])
        self.assertEqual([judge_barred(ELL, A, A, at) for at in (A, B)], [("outside",), ("way",)])


class WallParts(unittest.TestCase):
    def test_inside(self):
        self.assertEqual(wall_parts(ELL, A), parts("0:0:1 1:0:1 2:0:1 5:0:1"))
        self.assertEqual(wall_parts(ELL, MIDDLE), parts("0:0:1 1:0:1 2:0:1 3:0:1 4:0:1 5:0:1"))
        self.assertEqual(wall_parts(ELL, spot("3,1/2")), parts("0:0:1 1:0:1 2:0:1 4:2/3:1 5:0:1"))
        self.assertEqual(wall_parts(U, spot("1,3")), parts("0:0:2/3 5:0:1 6:0:1 7:0:1"))

    def test_on_walls_and_at_corners(self):
        self.assertEqual(wall_parts(ELL, spot("3,2")), parts("0:0:1 1:0:1 2:0:1 5:1/2:1"))
        self.assertEqual(wall_parts(ELL, spot("2,2")), parts("0:0:1 1:0:1 2:0:1 3:0:1 4:0:1 5:0:1"))
        self.assertEqual(wall_parts(ELL, spot("2,4")), parts("0:0:1/2 3:0:1 4:0:1 5:0:1"))
        self.assertEqual(wall_parts(ELL, spot("0,0")), parts("0:0:1 1:0:1 2:0:1 3:0:1 4:0:1 5:0:1"))
        self.assertEqual(wall_parts(SQUARE, spot("4,4")), parts("0:0:1 1:0:1 2:0:1 3:0:1"))

    def test_in_line_with_a_wall(self):
        # The wall ahead is seen along its own line, if nothing bars.
        self.assertEqual(wall_parts(ELL, spot("2,1")), parts("0:0:1 1:0:1 2:0:1 3:0:1 4:0:1 5:0:1"))
        self.assertEqual(wall_parts(U, spot("0,2")), parts("0:0:1 1:0:1/2 4:0:1 5:0:1 6:0:1 7:0:1"))
        self.assertEqual(wall_parts(U, spot("0,4")), parts("0:0:2/3 5:0:1 6:0:1 7:0:1"))
        self.assertEqual(wall_parts(U, spot("6,4")), parts("0:1/3:1 1:0:1 2:0:1 3:0:1"))

    def test_by_the_words(self):
        some = 0
        for rng, room, points, inner in cases(2, 120, 9):
            for p in inner:
                rows = [seen_by_words(points, p, k) for k in range(len(points))]
                self.assertEqual(wall_parts(room, spot_told(p)), told_parts(rows))
                some += sum(row != [(0, 1)] and row != [] for row in rows)
        self.assertGreater(some, 200)

    def test_unlit_parts(self):
        self.assertEqual(unlit_parts(ELL, []), parts("0:0:1 1:0:1 2:0:1 3:0:1 4:0:1 5:0:1"))
        self.assertEqual(unlit_parts(ELL, [A]), parts("3:0:1 4:0:1"))
        self.assertEqual(unlit_parts(ELL, [A, B]), ())
        self.assertEqual(unlit_parts(ELL, (MIDDLE,)), ())
        self.assertEqual(unlit_parts(ELL, [spot("3,1/2")]), parts("3:0:1 4:0:2/3"))
        self.assertEqual(unlit_parts(U, [spot("1,3")]), parts("0:2/3:1 1:0:1 2:0:1 3:0:1 4:0:1"))

    def test_a_single_seen_spot_does_not_part_a_dark_one(self):
        self.assertIs(sees_in(DENTS, spot("0,0"), spot("6,0")), True)
        self.assertEqual(wall_parts(DENTS, spot("0,0")), parts("0:0:1 1:0:1 7:0:1 8:0:1 9:0:1"))
        self.assertEqual(unlit_parts(DENTS, [spot("0,0")]), parts("2:0:1 3:0:1 4:0:1 5:0:1 6:0:1"))
        self.assertEqual(lit_share(DENTS, [spot("0,0")])[4], (0, 1))
        for rng, room, points, inner in cases(3, 60, 9):
            for p in inner:
                dark = [dark_by_words(points, [p], k) for k in range(len(points))]
                self.assertEqual(unlit_parts(room, [spot_told(p)]), told_parts(dark))

    def test_lit_share(self):
        self.assertEqual(lit_share(ELL, [A]), ((1, 1), (1, 1), (1, 1), (0, 1), (0, 1), (1, 1)))
        self.assertEqual(lit_share(ELL, []), ((0, 1),) * 6)
        self.assertEqual(lit_share(ELL, [A, B]), ((1, 1),) * 6)
        self.assertEqual(lit_share(U, [spot("1,3")]), places("2/3 0 0 0 0 1 1 1"))
        self.assertEqual(lit_share(ELL, (spot("3,1/2"),)), places("1 1 1 0 1/3 1"))

    def test_several_by_the_words(self):
        for rng, room, points, inner in cases(4, 50, 9):
            cameras = inner[:rng.randint(0, 3)]
            dark = [dark_by_words(points, cameras, k) for k in range(len(points))]
            spots_told = [spot_told(p) for p in cameras]
            self.assertEqual(unlit_parts(room, spots_told), told_parts(dark))
            self.assertEqual(unlit_parts(room, tuple(spots_told[::-1])), told_parts(dark))
            self.assertEqual(lit_share(room, spots_told), tuple(told(1 - sum(u - t for t, u in row)) for row in dark))


class Views(unittest.TestCase):
    def test_view(self):
        self.assertEqual(view(ELL, A), ELL[:4] + ELL[5:])
        self.assertEqual(view(ELL, MIDDLE), ELL)
        self.assertEqual(view(begun_at(ELL, 3), spot("2,2")), ELL)
        self.assertEqual(view(U, spot("1,3")), spots("0,0 4,0 2,2 2,4 0,4"))
        self.assertEqual(view(ELL, spot("3,1/2")), spots("0,0 4,0 4,2 2,2 2/3,4 0,4"))
        self.assertEqual([view_share(ELL, A), view_share(ELL, MIDDLE), view_share(U, spot("1,3"))], [(5, 6), (1, 1), (1, 2)])

    def test_on_walls_and_at_corners(self):
        self.assertEqual(view(ELL, spot("3,2")), spots("0,0 4,0 4,2 0,2"))
        self.assertEqual(view(ELL, spot("2,4")), spots("0,0 2,0 2,4 0,4"))
        self.assertEqual(view(U, spot("6,4")), spots("2,0 6,0 6,4 4,4 4,2"))
        self.assertEqual(view(SQUARE, spot("0,1")), SQUARE)
        self.assertEqual(view(SQUARE, spot("4,0")), SQUARE)

    def test_needles_are_left_out(self):
        seen = view(DENTS, spot("0,0"))
        self.assertEqual(seen, spots("-1,-2 1,-2 2,0 4,0 3,2 -1,2"))
        self.assertEqual([sees_in(DENTS, spot("0,0"), spot(at)) for at in ("5,0", "6,0", "3,0")], [True, True, True])
        self.assertEqual([is_in(seen, spot(at)) for at in ("5,0", "6,0", "3,0")], [False, False, True])

    def test_ways_that_touch_go_on_behind(self):
        self.assertEqual(view(U, spot("0,2")), spots("0,0 6,0 6,2 2,2 2,4 0,4"))
        self.assertEqual(wall_parts(U, spot("0,2")), parts("0:0:1 1:0:1/2 4:0:1 5:0:1 6:0:1 7:0:1"))
        slit = spots("0,0 2,0 2,2 4,2 4,0 6,0 6,4 4,4 4,3 2,3 2,4 0,4")
        self.assertEqual(view(slit, spot("0,5/2")), spots("0,0 2,0 2,2 4,2 6,7/4 6,13/4 4,3 2,3 2,4 0,4"))
        self.assertEqual(view(slit, spot("0,2")), spots("0,0 2,0 2,2 6,2 6,7/2 4,3 2,3 2,4 0,4"))

    def test_by_the_words(self):
        less = 0
        for rng, room, points, inner in cases(5, 120, 9):
            for p in inner:
                camera = spot_told(p)
                found = view(room, camera)
                self.assertTrue(is_room(found))
                self.assertEqual(found, home(found))
                seen = view_area(points, p)
                whole = exact(area(room))
                self.assertEqual([exact(area(found)), exact(view_share(room, camera))], [seen, seen / whole])
                corners = numbers(found)
                self.assertTrue(is_in_by_words(corners, p))
                self.assertTrue(all(sees_by_words(points, p, q) for q in corners))
                sees_all = all(sees_by_words(points, p, q) for q in points)
                self.assertIs(sees_room(room, camera), sees_all)
                self.assertEqual([sees_all, sees_all], [seen == whole, same_room(found, room)])
                self.assertIsNone(judge_view(room, camera, begun_at(found, rng.randrange(len(found)))))
                less += not sees_all
        self.assertGreater(less, 150)

    def test_each_spot_of_the_room(self):
        for rng, room, points, inner in cases(6, 40, 9):
            for p in inner[:3]:
                found = numbers(view(room, spot_told(p)))
                for _ in range(15):
                    q = (Fraction(rng.randint(0, 4 * 97), 97), Fraction(rng.randint(0, 4 * 89), 89))
                    where = where_by_words(found, q)[0]
                    if where_by_words(points, q) == ("inside",):
                        self.assertEqual(where != "outside", sees_by_words(points, p, q))
                    else:
                        self.assertNotEqual(where, "inside")

    def test_a_room_in_another_pose_has_its_view_in_this_pose(self):
        for rng, room, points, inner in cases(7, 30):
            t = rng.randrange(8)
            camera = spot_told(inner[0])
            posed = posed_room((camera,) * 3, t)[0]
            self.assertEqual(view(posed_room(room, t), posed), home(posed_room(view(room, camera), t)))
            self.assertEqual(view(scaled_room(room, (3, 7)), scaled_room((camera,), (3, 7))[0]),
                             scaled_room(view(room, camera), (3, 7)))

    def test_sees_room(self):
        self.assertEqual([sees_room(ELL, spot(at)) for at in ("1,1", "3,1", "2,2", "0,0", "0,2", "2,0", "5/2,1", "4,0")],
                         [True, False, True, True, True, True, False, False])

    def test_judge_view(self):
        right = ELL[:4] + ELL[5:]
        for value, expected in [
                (right, None), (begun_at(right, 3), None), (ELL, ("seen", 4)), (begun_at(ELL, 2), ("seen", 2)),
                (ELL[:3], ("area", (4, 1))), (right[::-1], ("form",)), (spots("0,0 4,0 4,2 3,3 0,4"), ("room", 3)),
                (spots("0,0 5,0 4,2 3,3 0,4"), ("room", 1)), (spots("0,0 4,0 5,2 2,4 0,4"), ("room", 2)),
                (spots("2,4 0,4 0,0 5,0"), ("room", 3)), (spots("0,0 4,0 4,2 2,2 1,4 0,4"), ("seen", 4)),
                (spots("0,0 2,0 2,2 0,2"), ("area", (4, 1))), (right[:2], ("form",)), (list(right), ("form",)),
                (spots("0,0 4,0 4,2 0,4"), ("area", (12, 1)))]:
            self.assertEqual(judge_view(ELL, A, value), expected, value)

    def test_judge_view_of_another_room_as_great(self):
        # Over the barred part instead of a dent below: its corners are all seen.
        other = spots("0,0 2,1 4,0 4,2 2,4 0,4")
        self.assertEqual([area(other), judge_view(ELL, MIDDLE, other)], [(12, 1), ("other",)])
        self.assertEqual(judge_view(ELL, MIDDLE, begun_at(other, 2)), ("other",))
        self.assertEqual(judge_view(ELL, MIDDLE, spots("0,0 2,1/2 4,0 4,2 2,4 0,4")), ("area", (13, 1)))
        self.assertEqual(judge_view(ELL, A, other), ("seen", 4))
        # The room ahead of what is seen, for a greater number too.
        self.assertEqual(judge_view(ELL, A, spots("2,4 0,4 0,0 4,0 5,2")), ("room", 4))

    def test_judge_view_of_any_value(self):
        for value in NONE_AT_ALL + [nested(30), (ELL,), ELL + (None,), [ELL], ((0, 0), (4, 0), (4, 4))]:
            self.assertEqual(judge_view(ELL, A, value), ("form",), value)


class Several(unittest.TestCase):
    def test_seen_from(self):
        self.assertEqual([seen_from(ELL, [A, B], MIDDLE), seen_from(ELL, [A, B], ELL[4]), seen_from(ELL, [A, B], ELL[2])],
                         [(0, 1), (1,), (0,)])
        self.assertEqual([seen_from(ELL, [], MIDDLE), seen_from(ELL, (A, A), MIDDLE), seen_from(ELL, [A], B)], [(), (0, 1), (0,)])
        for rng, room, points, inner in cases(8, 40):
            cameras = inner[:rng.randint(0, 5)]
            for q in inner:
                expected = tuple(k for k, p in enumerate(cameras) if sees_by_words(points, p, q))
                self.assertEqual(seen_from(room, [spot_told(p) for p in cameras], spot_told(q)), expected)

    def test_both_see(self):
        self.assertEqual(both_see(ELL, A, B), parts("0:0:1 5:0:1"))
        self.assertEqual(both_see(ELL, A, A), wall_parts(ELL, A))
        self.assertEqual(both_see(U, spot("1,3"), spot("5,3")), parts("0:1/3:2/3"))
        # Where two parts have just a spot in common there is none.
        self.assertEqual(both_see(U, spot("0,4"), spot("6,4")), parts("0:1/3:2/3"))
        for rng, room, points, inner in cases(9, 60, 9):
            p, q = inner[0], inner[-1]
            rows = []
            for k in range(len(points)):
                pairs = [(max(a, c), min(b, d)) for a, b in seen_by_words(points, p, k) for c, d in seen_by_words(points, q, k)]
                rows.append(sorted(pair for pair in pairs if pair[0] < pair[1]))
            self.assertEqual(both_see(room, spot_told(p), spot_told(q)), told_parts(rows))

    def test_best_camera(self):
        self.assertEqual(best_camera(ELL, [A, MIDDLE, B]), 1)
        self.assertEqual(best_camera(ELL, [A, B]), 0)
        self.assertEqual(best_camera(ELL, (B, A, MIDDLE, spot("0,0"))), 2)
        self.assertEqual(best_camera(ELL, [A]), 0)
        self.assertEqual(best_camera(ELL, [spot("2,4"), A, B]), 1)
        for rng, room, points, inner in cases(10, 30):
            areas = [view_area(points, p) for p in inner]
            self.assertEqual(best_camera(room, [spot_told(p) for p in inner]), areas.index(max(areas)))

    def test_needless_cameras(self):
        self.assertEqual([needless_cameras(ELL, [A, MIDDLE, B]), needless_cameras(ELL, [A, B]), needless_cameras(ELL, [])],
                         [(0, 1, 2), (), ()])
        self.assertEqual(needless_cameras(ELL, [A, A]), (0, 1))
        self.assertEqual(needless_cameras(ELL, (MIDDLE, A)), (1,))
        self.assertEqual(needless_cameras(ELL, [A]), ())
        for rng, room, points, inner in cases(11, 30):
            cameras = inner[:rng.randint(0, 5)]
            dark = [dark_by_words(points, cameras, k) for k in range(len(points))]
            expected = tuple(k for k in range(len(cameras)) if dark == [
                dark_by_words(points, cameras[:k] + cameras[k + 1:], at) for at in range(len(points))])
            self.assertEqual(needless_cameras(room, [spot_told(p) for p in cameras]), expected)

    def test_nothing_is_modified(self):
        cameras = [A, MIDDLE, B]
        for call in (unlit_parts, lit_share, best_camera, needless_cameras):
            self.assertEqual(call(ELL, cameras), call(ELL, tuple(cameras)))
        self.assertEqual(cameras, [A, MIDDLE, B])


if __name__ == "__main__":
    unittest.main()
