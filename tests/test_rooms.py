"""Promises 7.1 to 7.5."""

import unittest
from fractions import Fraction

from helpers import (
    NONE_AT_ALL, crosses, dice, exact, frac, is_inner_by_words, is_room_by_words, nested, numbers, room_of, rows_of,
    some_points, some_room, some_spots_in, spot, spot_told, spots, told, turn, where_by_words,
)
from ridgewatch.rooms import (
    area, begun_at, convex_corners, cut_room, diagonals, home, is_dentless, is_in, is_room, judge_room, moved_room,
    place_in, pose_of, posed_room, reflex_corners, same_room, scaled_room,
)

ELL = spots("0,0 4,0 4,2 2,2 2,4 0,4")
SQUARE = spots("0,0 1,0 1,1 0,1")
TRIANGLE = spots("0,0 3,0 0,2")
BOW = spots("0,0 2,2 2,0 0,2")
SPIRAL = spots("0,0 6,0 6,5 1,5 1,2 4,2 4,3 2,3 2,4 5,4 5,1 0,1")


def fault_by_words(points):
    """What 7.1 tells of judge_room, for any three or more points in Python's own numbers."""
    many = len(points)
    for i in range(many):
        for j in range(i + 1, many):
            if points[i] == points[j]:
                return ("twice", i, j)
    for i in range(many):
        if turn(points[i - 1], points[i], points[(i + 1) % many]) == 0:
            return ("straight", i)
    walls = rows_of(points)
    for i in range(many):
        for j in range(i + 1, many):
            if (j - i) % many not in (1, many - 1) and crosses(walls[i], walls[j]):
                return ("meet", i, j)
    if sum(a[0] * b[1] - b[0] * a[1] for a, b in walls) < 0:
        return ("clock",)
    return None


def some_loop(rng, many, size):
    """Points of a small grid in any sequence."""
    return [(Fraction(rng.randint(0, size)), Fraction(rng.randint(0, size))) for _ in range(many)]


def cases(seed, many, corners=9, size=4):
    """Rooms, with their points in Python's own numbers."""
    rng = dice(seed)
    for _ in range(many):
        room = some_room(rng, rng.randint(3, corners), size)
        yield rng, room, numbers(room)


class JudgeRoom(unittest.TestCase):
    def check(self, value, expected):
        self.assertEqual(judge_room(value), expected, value)
        self.assertIs(is_room(value), expected is None)

    def test_rooms(self):
        for room in (ELL, SQUARE, TRIANGLE, SPIRAL, begun_at(ELL, 4), spots("0,0 1/3,-1/2 1/7,9"),
                     spots("0,0 4,0 4,4 2,1 0,4")):
            self.check(room, None)

    def test_form(self):
        for value in NONE_AT_ALL + [nested(30), list(ELL), ELL[:2], ELL[:1], (), ELL + ((0, 0),), ELL + (None,), (ELL, ELL, ELL),
                                    (list(ELL[0]),) + ELL[1:], ELL[:5] + (((0, 1), [4, 1]),), ((0, 0), (1, 0), (0, 1)),
                                    ELL[:5] + (((0, 2), (4, 1)),), (((False, 1), (0, 1)),) + ELL[1:],
                                    (((0, True), (0, 1)),) + ELL[1:], ELL[:5] + (((0, 1),),), tuple(zip("abc", "def"))]:
            self.check(value, ("form",))

    def test_twice(self):
        self.check(ELL + ELL[:1], ("twice", 0, 6))
        self.check(spots("0,0 1,0 0,0"), ("twice", 0, 2))
        self.check(spots("0,0 1,0 1,0 0,1 0,1"), ("twice", 1, 2))
        self.check(spots("0,0 1,0 2,1 1,0 0,0"), ("twice", 0, 4))
        self.check(spots("2,1 1,0 0,0 1,0 0,0"), ("twice", 1, 3))
        self.check(SQUARE[::-1] + SQUARE[:1], ("twice", 3, 4))
        # Ahead of corners straight on.
        self.check(spots("0,0 1,0 2,0 0,0"), ("twice", 0, 3))

    def test_straight(self):
        self.check(spots("0,0 1,0 2,0 0,1"), ("straight", 1))
        self.check(spots("1,0 2,0 0,1 0,0"), ("straight", 0))
        self.check(spots("0,0 2,0 0,2 0,1"), ("straight", 3))
        self.check(spots("0,0 2,0 1,0 1,1"), ("straight", 1))
        self.check(spots("0,0 1,0 2,0"), ("straight", 0))
        self.check(spots("0,0 1,0 2,0 2,1 2,2 0,2"), ("straight", 1))
        # Ahead of walls that meet.
        self.check(BOW + spots("-1,3"), ("straight", 3))
        self.check(spots("0,0 2,2 2,0 0,2 0,1"), ("straight", 4))

    def test_meet(self):
        self.check(BOW, ("meet", 0, 2))
        self.check(spots("0,0 3,0 2,2 0,-1"), ("meet", 0, 2))
        # A corner upon a wall: two walls meet it, the least pair is told.
        self.check(spots("0,0 4,0 4,2 2,0 0,2"), ("meet", 0, 2))
        self.check(spots("4,0 4,2 2,0 0,2 0,0"), ("meet", 1, 4))
        self.check(spots("0,2 0,0 4,0 4,2 2,0"), ("meet", 1, 3))
        # Along one another.
        self.check(spots("0,0 4,0 4,1 3,0 2,0 2,1"), ("meet", 0, 2))
        self.check(spots("0,0 9,0 9,3 0,3 5,-1 4,-1"), ("meet", 0, 3))
        # Ahead of the clock.
        self.check(BOW[::-1], ("meet", 0, 2))
        self.check(spots("0,0 0,2 2,0 4,2 4,0"), ("meet", 1, 4))

    def test_clock(self):
        for room in (ELL, SQUARE, TRIANGLE, SPIRAL):
            self.check(room[::-1], ("clock",))
            self.check(begun_at(room[::-1], 2), ("clock",))

    def test_by_the_words(self):
        rng = dice(1)
        kinds = {}
        for _ in range(2500):
            points = some_loop(rng, rng.randint(3, 6), rng.choice((2, 3, 5)))
            expected = fault_by_words(points)
            self.check(room_of(points, Fraction(1, rng.randint(1, 3))), expected)
            self.assertEqual(expected is None, is_room_by_words(points))
            kinds[expected and expected[0]] = kinds.get(expected and expected[0], 0) + 1
        self.assertTrue(all(kinds.get(kind, 0) > 50 for kind in (None, "twice", "straight", "meet", "clock")), kinds)

    def test_grown_rooms(self):
        for rng, room, _ in cases(2, 40, 14):
            self.check(room, None)
            self.check(begun_at(room, rng.randrange(len(room))), None)
            self.check(room[::-1], ("clock",))


class Looking(unittest.TestCase):
    def test_area(self):
        self.assertEqual([area(room) for room in (ELL, SQUARE, TRIANGLE, SPIRAL)], [(12, 1), (1, 1), (3, 1), (18, 1)])
        self.assertEqual(area(spots("0,0 1/2,0 0,1/3")), (1, 12))
        for _, room, points in cases(3, 40):
            self.assertEqual(area(room), told(sum(a[0] * b[1] - b[0] * a[1] for a, b in rows_of(points)) / 2))

    def test_place_in(self):
        for place, expected in [("2,2", ("corner", 3)), ("0,0", ("corner", 0)), ("0,4", ("corner", 5)), ("2,3", ("wall", 3)),
                                ("3,2", ("wall", 2)), ("0,1/7", ("wall", 5)), ("1,0", ("wall", 0)), ("4,1", ("wall", 1)),
                                ("1,1/2", ("inside",)), ("1,2", ("inside",)), ("3,1", ("inside",)), ("1,4", ("wall", 4)),
                                ("3,3", ("outside",)), ("5,0", ("outside",)), ("-1,2", ("outside",)), ("-1,0", ("outside",)),
                                ("3,4", ("outside",)), ("2,5", ("outside",)), ("1,-1", ("outside",)), ("5,2", ("outside",))]:
            self.assertEqual(place_in(ELL, spot(place)), expected, place)
            self.assertIs(is_in(ELL, spot(place)), expected != ("outside",))

    def test_place_in_beside_corners_at_one_height(self):
        saw = spots("0,0 8,0 7,2 6,1 5,2 4,1 3,3 2,1 1,2")
        for place, expected in [("1,1", ("inside",)), ("3/2,1", ("inside",)), ("5,1", ("inside",)), ("0,1", ("outside",)),
                                ("8,1", ("outside",)), ("9/2,2", ("outside",)), ("3,2", ("inside",)), ("0,2", ("outside",)),
                                ("6,2", ("outside",)), ("3,3", ("corner", 6)), ("0,3", ("outside",)), ("2,2", ("outside",))]:
            self.assertEqual(place_in(saw, spot(place)), expected, place)

    def test_place_in_by_the_words(self):
        kinds = {}
        for rng, room, points in cases(4, 60, 12):
            grid = [(Fraction(x, 2), Fraction(y, 2)) for x, y in [(rng.randint(-1, 9), rng.randint(-1, 9)) for _ in range(25)]]
            for p in grid + some_spots_in(rng, points):
                expected = where_by_words(points, p)
                self.assertEqual(place_in(room, spot_told(p)), expected)
                self.assertIs(is_in(room, spot_told(p)), expected != ("outside",))
                kinds[expected[0]] = kinds.get(expected[0], 0) + 1
        self.assertTrue(all(kinds.get(kind, 0) > 50 for kind in ("corner", "wall", "inside", "outside")), kinds)

    def test_place_in_of_far_spots(self):
        far = ((10 ** 20 + 1, 10 ** 19), (1, 10 ** 20 + 3))
        self.assertEqual(place_in(ELL, far), ("outside",))
        self.assertEqual(place_in(ELL, ((10 ** 19 + 1, 10 ** 19), (1, 10 ** 20 + 3))), ("inside",))
        self.assertEqual(place_in(ELL, ((10 ** 19 + 1, 10 ** 19), (0, 1))), ("wall", 0))

    def test_corners(self):
        self.assertEqual([reflex_corners(ELL), convex_corners(ELL), is_dentless(ELL)], [(3,), (0, 1, 2, 4, 5), False])
        self.assertEqual([reflex_corners(SQUARE), convex_corners(SQUARE), is_dentless(SQUARE)], [(), (0, 1, 2, 3), True])
        self.assertEqual([reflex_corners(begun_at(ELL, 3)), convex_corners(begun_at(ELL, 3))], [(0,), (1, 2, 3, 4, 5)])
        self.assertEqual(reflex_corners(SPIRAL), (7, 8, 9, 10))
        for _, room, points in cases(5, 60):
            many = len(points)
            turns = [turn(points[k - 1], points[k], points[(k + 1) % many]) for k in range(many)]
            self.assertEqual(reflex_corners(room), tuple(k for k in range(many) if turns[k] < 0))
            self.assertEqual(convex_corners(room), tuple(k for k in range(many) if turns[k] > 0))
            self.assertIs(is_dentless(room), all(worth > 0 for worth in turns))
            self.assertGreaterEqual(len(convex_corners(room)), 3)


class Same(unittest.TestCase):
    def test_begun_at(self):
        self.assertEqual(begun_at(ELL, 0), ELL)
        self.assertEqual(begun_at(ELL, 2), ELL[2:] + ELL[:2])
        self.assertEqual(begun_at(ELL, 5), ELL[5:] + ELL[:5])

    def test_home(self):
        for k in range(6):
            self.assertEqual(home(begun_at(ELL, k)), ELL)
        # By what the numbers are worth.
        self.assertEqual(home(spots("1/2,0 1,1 1/3,1"))[0], spot("1/3,1"))
        self.assertEqual(home(spots("-1/2,0 1,1 -1/3,1"))[0], spot("-1/2,0"))
        self.assertEqual(home(spots("0,1/2 0,1/3 1,0"))[0], spot("0,1/3"))
        self.assertEqual(home(spots("2,0 2,3 1,2 1,1"))[0], spot("1,1"))
        for _, room, points in cases(6, 40):
            k = points.index(min(points))
            self.assertEqual(home(room), room[k:] + room[:k])

    def test_same_room(self):
        self.assertIs(same_room(ELL, begun_at(ELL, 3)), True)
        self.assertIs(same_room(ELL, ELL), True)
        self.assertIs(same_room(ELL, SQUARE), False)
        self.assertIs(same_room(ELL, moved_room(ELL, (1, 1), (0, 1))), False)
        self.assertIs(same_room(ELL, posed_room(ELL, 1)), False)
        self.assertIs(same_room(SQUARE, moved_room(posed_room(SQUARE, 1), (1, 1), (0, 1))), True)
        self.assertIs(same_room(spots("0,0 4,0 4,4 1,3"), spots("0,0 4,0 4,4 1,2")), False)

    def test_moved_and_scaled(self):
        self.assertEqual(moved_room(TRIANGLE, frac("1/2"), frac("-3")), spots("1/2,-3 7/2,-3 1/2,-1"))
        self.assertEqual(scaled_room(TRIANGLE, frac("1/3")), spots("0,0 1,0 0,2/3"))
        self.assertEqual(scaled_room(moved_room(TRIANGLE, (1, 1), (2, 1)), (2, 1)), spots("2,4 8,4 2,8"))
        for _, room, _ in cases(7, 20):
            self.assertEqual(area(moved_room(room, frac("2/7"), frac("-9"))), area(room))
            self.assertEqual(exact(area(scaled_room(room, frac("2/7")))), exact(area(room)) * Fraction(4, 49))

    def test_posed_room(self):
        self.assertEqual([posed_room(ELL[:3], t) for t in range(8)], [
            spots("0,0 4,0 4,2"), spots("0,0 0,4 -2,4"), spots("0,0 -4,0 -4,-2"), spots("0,0 0,-4 2,-4"),
            spots("0,0 -4,2 -4,0"), spots("0,0 -2,-4 0,-4"), spots("0,0 4,-2 4,0"), spots("0,0 2,4 0,4")])
        for _, room, points in cases(8, 20):
            for t in range(8):
                posed = numbers(posed_room(room, t))
                self.assertTrue(is_room_by_words(posed))
                self.assertEqual(area(posed_room(room, t)), area(room))
                first = points[:1] + points[:0:-1] if t >= 4 else points
                for (x, y), p in zip(first, posed):
                    x = -x if t >= 4 else x
                    self.assertEqual(p, [(x, y), (-y, x), (-x, -y), (y, -x)][t % 4])

    def test_pose_of(self):
        goal = moved_room(begun_at(ELL, 1), (1, 1), (1, 2))
        self.assertEqual(pose_of(ELL, goal), (0, (1, 1), (1, 2)))
        self.assertIsNone(pose_of(ELL, scaled_room(ELL, (2, 1))))
        self.assertIsNone(pose_of(ELL, SQUARE))
        self.assertIsNone(pose_of(TRIANGLE, spots("0,0 3,0 0,3")))
        # Of several poses the least: all do for a square.
        self.assertEqual(pose_of(SQUARE, moved_room(posed_room(SQUARE, 6), (5, 1), (6, 1))), (0, (5, 1), (5, 1)))
        self.assertEqual([pose_of(ELL, posed_room(ELL, t)) for t in (5, 7)], [(t, (0, 1), (0, 1)) for t in (2, 0)])

    def test_pose_of_by_the_words(self):
        seen = {}
        for rng, room, _ in cases(9, 60, 7):
            t = rng.randrange(8)
            dx, dy = frac("-7/3"), frac("5")
            goal = begun_at(moved_room(posed_room(room, t), dx, dy), rng.randrange(len(room)))
            found = pose_of(room, goal)
            self.assertLessEqual(found[0], t)
            self.assertTrue(same_room(moved_room(posed_room(room, found[0]), found[1], found[2]), goal))
            for less in range(found[0]):
                moves = [[exact(x) - exact(y) for x, y in zip(one, other)]
                         for one in goal for other in posed_room(room, less)]
                for move in moves:
                    tried = moved_room(posed_room(room, less), told(move[0]), told(move[1]))
                    self.assertFalse(same_room(tried, goal))
            seen[found[0]] = True
        self.assertEqual(sorted(seen), list(range(8)))


def is_diagonal_by_words(points, i, j):
    """What 7.5 tells."""
    many = len(points)
    beside = [points[k % many] for k in (i - 1, i + 1, j - 1, j + 1)]
    return is_inner_by_words(points, i, j) and all(turn(points[i], points[j], p) != 0 for p in beside)


class Diagonals(unittest.TestCase):
    def test_diagonals(self):
        self.assertEqual(diagonals(ELL), ((0, 2), (0, 3), (0, 4), (1, 3), (3, 5)))
        self.assertEqual([diagonals(TRIANGLE), diagonals(SQUARE)], [(), ((0, 2), (1, 3))])

    def test_a_way_that_touches_a_corner(self):
        self.assertEqual(diagonals(spots("0,0 4,0 4,4 2,1 0,4")), ((0, 3), (1, 3)))
        self.assertEqual(diagonals(spots("0,0 4,0 4,4 2,3 0,4")), ((0, 2), (0, 3), (1, 3), (1, 4)))

    def test_a_way_that_goes_straight_on_with_a_wall(self):
        # From both corners below to the dent, where a wall goes on.
        self.assertEqual(diagonals(spots("0,0 4,0 4,4 2,2 0,4")), ())
        # From corner 2 up to corner 5, behind wall 1; from corner 0 to corner 5, ahead of wall 4.
        step = spots("0,0 4,0 4,2 6,2 6,6 4,4 0,4")
        self.assertEqual(diagonals(step), ((0, 2), (1, 6), (2, 4), (2, 6), (3, 5), (3, 6)))
        for k in range(7):
            pairs = sorted(tuple(sorted(((i - k) % 7, (j - k) % 7))) for i, j in diagonals(step))
            self.assertEqual(diagonals(begun_at(step, k)), tuple(pairs))

    def test_by_the_words(self):
        many = straight = 0
        for _, room, points in cases(10, 150, 11):
            expected = tuple((i, j) for i in range(len(room)) for j in range(i + 1, len(room))
                             if is_diagonal_by_words(points, i, j))
            self.assertEqual(diagonals(room), expected)
            many += len(expected)
            straight += sum(is_inner_by_words(points, i, j) and not is_diagonal_by_words(points, i, j)
                            for i in range(len(room)) for j in range(i + 1, len(room)))
        self.assertTrue(many > 300 and straight > 30, (many, straight))

    def test_cut_room(self):
        self.assertEqual(cut_room(ELL, 0, 3), (ELL[:4], (ELL[3], ELL[4], ELL[5], ELL[0])))
        self.assertEqual(cut_room(ELL, 1, 3), (ELL[1:4], (ELL[3], ELL[4], ELL[5], ELL[0], ELL[1])))
        self.assertEqual(cut_room(ELL, 3, 5), (ELL[3:], (ELL[5],) + ELL[:4]))

    def test_both_parts_are_rooms(self):
        for rng, room, points in cases(11, 50, 11):
            for i, j in diagonals(room):
                one, other = cut_room(room, i, j)
                self.assertTrue(is_room_by_words(numbers(one)) and is_room_by_words(numbers(other)))
                self.assertEqual(exact(area(one)) + exact(area(other)), exact(area(room)))
                self.assertEqual(len(one) + len(other), len(room) + 2)
                for p in some_spots_in(rng, numbers(one))[-6:]:
                    if where_by_words(numbers(one), p) == ("inside",):
                        self.assertEqual(place_in(room, spot_told(p)), ("inside",))


class Plain(unittest.TestCase):
    def test_same_calls_same_answers(self):
        for rng, room, points in cases(12, 5):
            before = room_of(some_points(rng, 3))
            for call in (area, home, diagonals, judge_room, reflex_corners):
                self.assertEqual(call(room), call(room_of(points)))
            self.assertEqual(judge_room(before), None)


if __name__ == "__main__":
    unittest.main()
