"""Promises 9.2 to 9.6."""

import unittest
from fractions import Fraction
from itertools import combinations
from math import gcd

from helpers import (
    NONE_AT_ALL, clipped_by_words, dice, exact, frac, hull, inner_by_words, lead_by_words, nested, numbers,
    some_room, some_spots_in, spot, spot_told, spots, told,
)
from ridgewatch.kernels import (
    bars, common_spot, deepest, is_in_kernel, judge_bars, kernel, most_sides, shrunk_kernel, walls_behind,
)
from ridgewatch.rooms import begun_at, home, is_dentless, is_room, moved_room, scaled_room
from ridgewatch.sides import form_area, lies_in_form
from ridgewatch.views import sees_room

ELL = spots("0,0 2,0 2,1 1,1 1,2 0,2")
TEETH = spots("0,-1 5,-1 4,3 3,0 2,0 1,3")
SQUARE = spots("0,0 4,0 4,4 0,4")
U = spots("0,0 6,0 6,4 4,4 4,2 2,2 2,4 0,4")
ZED = spots("0,0 4,0 4,3 2,3 2,2 3,2 3,1 1,1 1,4 0,4")
ACROSS = spots("0,0 4,0 4,2 6,2 6,4 2,4 2,2 0,2")
STAR = spots("0,0 2,1 4,0 3,2 4,4 2,3 0,4 1,2")


def crossings(sides):
    """The points in which the borders of two sides meet."""
    found = []
    for (a, b, c), (d, e, f) in combinations(sides, 2):
        if a * e != b * d:
            found.append(((c * e - b * f) / (a * e - b * d), (a * f - c * d) / (a * e - b * d)))
    return found


def kernel_by_words(sides):
    """The form of all points on all sides, which go all round: their corners are points where two borders meet."""
    return tuple(spot_told(p) for p in hull(
        [p for p in crossings(sides) if all(lead_by_words(side, p) >= 0 for side in sides)]))


def have_common(sides):
    """Whether there is a point on all of the sides: looked for in a box that is large enough for small rooms."""
    far = Fraction(10 ** 7)
    points = [(-far, -far), (far, -far), (far, far), (-far, far)]
    for side in sides:
        points = clipped_by_words(points, side)
    return points != []


def bars_by_words(sides):
    """The least tuple of two or three walls without a point on all their inner sides, None if there is none."""
    for many in (2, 3):
        for walls in combinations(range(len(sides)), many):
            if not have_common([sides[i] for i in walls]):
                return walls
    return None


def sums(sides, pairs):
    """The three sums of the sides taken so many times each."""
    return [sum(sides[i][k] * weight for i, weight in pairs) for k in range(3)]


def cross(one, other):
    """The turn from one side's inward way to the other's."""
    return one[0] * other[1] - one[1] * other[0]


def hold(sides):
    """Whether no way leads deeper into all of these sides: nought is a mean of their inward ways."""
    for one, other in combinations(sides, 2):
        if cross(one, other) == 0 and one[0] * other[0] + one[1] * other[1] < 0:
            return True
    for one, other, third in combinations(sides, 3):
        turns = [cross(one, other), cross(other, third), cross(third, one)]
        if min(turns) > 0 or max(turns) < 0:
            return True
    return False


def cases(seed, many, corners=9, size=5):
    """Rooms, their points and their inner sides in Python's own numbers."""
    rng = dice(seed)
    for _ in range(many):
        room = some_room(rng, rng.randint(3, corners), size)
        points = numbers(room)
        yield rng, room, points, inner_by_words(points)


class Kernel(unittest.TestCase):
    def test_kernel(self):
        self.assertEqual(kernel(ELL), spots("0,0 1,0 1,1 0,1"))
        self.assertEqual([kernel(TEETH), kernel(U), kernel(ZED)], [(), (), ()])
        self.assertEqual(kernel(STAR), spots("1,2 4/3,4/3 2,1 8/3,4/3 3,2 8/3,8/3 2,3 4/3,8/3"))
        self.assertEqual(kernel(begun_at(ELL, 3)), spots("0,0 1,0 1,1 0,1"))

    def test_rooms_without_reflex_corners(self):
        self.assertEqual([kernel(SQUARE), kernel(begun_at(SQUARE, 2))], [SQUARE, SQUARE])
        for _, room, _, _ in cases(1, 60, 5):
            self.assertEqual(kernel(room) == home(room), is_dentless(room))

    def test_a_stretch_and_one_spot(self):
        # Between the lines along the walls at two dents a stretch, or a spot, is left.
        self.assertEqual(kernel(ACROSS), spots("2,2 4,2"))
        self.assertEqual(kernel(moved_room(ACROSS, frac("1/2"), frac("-3"))), spots("5/2,-1 9/2,-1"))
        upright = tuple((y, x) for x, y in ACROSS)[::-1]
        self.assertEqual([is_room(upright), kernel(upright)], [True, spots("2,2 2,4")])
        corner = spots("0,0 4,0 4,2 6,2 6,6 4,6 4,4 2,4 2,2 0,2")
        self.assertEqual([is_room(corner), kernel(corner), bars(corner)], [True, spots("4,2"), None])
        self.assertEqual(deepest(corner), ((0, 1), spot("4,2")))

    def test_by_the_words(self):
        kinds = {}
        for rng, room, points, sides in cases(2, 200, 12):
            found = kernel(room)
            self.assertEqual(found, kernel_by_words(sides))
            kinds[min(len(found), 3)] = kinds.get(min(len(found), 3), 0) + 1
            for p in some_spots_in(rng, points)[-8:] + crossings(sides)[:12]:
                inside = all(lead_by_words(side, p) >= 0 for side in sides)
                self.assertIs(is_in_kernel(room, spot_told(p)), inside)
                self.assertIs(lies_in_form(found, spot_told(p)), inside)
                self.assertEqual(walls_behind(room, spot_told(p)),
                                 tuple(k for k, side in enumerate(sides) if lead_by_words(side, p) < 0))
        self.assertTrue(all(kinds.get(k, 0) > 0 for k in (0, 1, 3)), kinds)

    def test_just_the_spots_from_which_all_is_seen(self):
        for rng, room, points, _ in cases(3, 50, 8):
            for p in some_spots_in(rng, points)[-8:]:
                self.assertIs(is_in_kernel(room, spot_told(p)), sees_room(room, spot_told(p)))
            for corner in kernel(room):
                self.assertIs(sees_room(room, corner), True)

    def test_is_in_kernel(self):
        self.assertEqual([is_in_kernel(ELL, spot(at)) for at in ("0,0", "1,1", "1/2,1/2", "1,2", "3/2,0", "-1,0", "9,9", "1,0")],
                         [True, True, True, False, False, False, False, True])
        self.assertEqual([is_in_kernel(TEETH, spot(at)) for at in ("5/2,-1/2", "5/2,-1", "5/2,3")], [False] * 3)

    def test_walls_behind(self):
        self.assertEqual([walls_behind(TEETH, TEETH[5]), walls_behind(ELL, ELL[0]), walls_behind(ELL, ELL[4])], [(2, 3), (), (2,)])
        self.assertEqual(walls_behind(ELL, spot("3,3")), (1, 2, 3, 4))
        self.assertEqual(walls_behind(ELL, spot("-1,-1")), (0, 5))
        self.assertEqual(walls_behind(ELL, spot("2,1/2")), (3,))


class EachThree(unittest.TestCase):
    def test_one_wall(self):
        for i in range(6):
            self.check(ELL, (i,), True)
            self.check(TEETH, (i,), True)

    def check(self, room, walls, expected):
        found = common_spot(room, walls)
        self.assertEqual(found is not None, expected, walls)
        if expected:
            sides = inner_by_words(numbers(room))
            p = numbers((found,))[0]
            self.assertTrue(all(lead_by_words(sides[i], p) >= 0 for i in walls), walls)

    def test_parallel_walls(self):
        # Looking at one another, away from one another, and all the same way.
        for walls, expected in [((0, 2), True), ((0, 4), True), ((2, 4), True), ((1, 5), True), ((1, 3), True), ((3, 7), True),
                                ((1, 7), True), ((3, 5), False), ((1, 3, 5), False), ((3, 5, 7), False), ((2, 4, 6), True),
                                ((0, 2, 4), True), ((1, 5, 7), True), ((0, 3, 5), False)]:
            self.check(U, walls, expected)
        self.check(ACROSS, (2, 6), True)
        self.assertEqual(common_spot(ACROSS, (2, 6))[1], (2, 1))

    def test_three_walls(self):
        for walls, expected in [((0, 2, 4), None), ((0, 1, 2), True), ((2, 3), True), ((1, 3, 4), True)]:
            self.check(TEETH, walls, expected is True)

    def test_by_the_words(self):
        kinds = {}
        for _, room, _, sides in cases(4, 60, 11):
            each = True
            for many in (1, 2, 3):
                for walls in combinations(range(len(room)), many):
                    expected = have_common([sides[i] for i in walls])
                    self.check(room, walls, expected)
                    each = each and expected
            self.assertEqual(each, kernel(room) != ())
            kinds[each] = kinds.get(each, 0) + 1
        self.assertTrue(min(kinds.values()) > 5, kinds)


class Bars(unittest.TestCase):
    def test_bars(self):
        self.assertEqual([bars(ELL), bars(SQUARE), bars(STAR)], [None] * 3)
        self.assertEqual(bars(TEETH), ((0, 2), (2, 5), (4, 5)))
        self.assertEqual(bars(U), ((3, 1), (5, 1)))
        self.assertEqual(bars(scaled_room(U, frac("2/3"))), ((3, 1), (5, 1)))
        # Parallel walls that are not as long, level and upright.
        self.assertEqual(bars(spots("0,0 6,0 6,4 4,4 4,2 2,2 2,6 0,6")), ((3, 2), (5, 1)))
        self.assertEqual(bars(spots("0,0 6,0 6,9 1,9 1,6 4,6 4,4 0,4")), ((4, 4), (6, 3)))

    def test_by_the_words(self):
        kinds = {}
        for _, room, _, sides in cases(5, 200, 12):
            walls = bars_by_words(sides)
            paper = bars(room)
            kinds[walls and len(walls)] = kinds.get(walls and len(walls), 0) + 1
            self.assertEqual(paper is None, kernel(room) != ())
            if walls is None:
                self.assertIsNone(paper)
                continue
            self.assertEqual(tuple(i for i, _ in paper), walls)
            found = sums(sides, paper)
            self.assertTrue(found[0] == 0 == found[1] and found[2] > 0)
            self.assertTrue(all(type(weight) is int and weight > 0 for _, weight in paper))
            common = 0
            for _, weight in paper:
                common = gcd(common, weight)
            self.assertEqual(common, 1)
            self.assertIsNone(judge_bars(room, paper))
        self.assertTrue(all(kinds.get(kind, 0) > 2 for kind in (None, 2, 3)), kinds)

    def test_judge_bars(self):
        for value, expected in [
                (((0, 2), (2, 5), (4, 5)), None), (((0, 4), (2, 10), (4, 10)), None), (((0, 1), (2, 5), (4, 5)), ("turn",)),
                (((0, 1), (3, 5)), ("lead",)), ((), ("form",)), (((0, 2), (2, 5), (4, 6)), ("turn",)),
                (((0, 2 * 10 ** 50), (2, 5 * 10 ** 50), (4, 5 * 10 ** 50)), None), (((2, 5), (4, 5)), ("turn",)),
                (((0, 1), (1, 1)), ("turn",)), (((0, 1), (1, 1), (2, 1)), ("turn",))]:
            self.assertEqual(judge_bars(TEETH, value), expected, value)

    def test_judge_bars_turn_and_lead(self):
        # Of the square two opposite walls turn to nought, but don't bar.
        self.assertEqual([judge_bars(SQUARE, value) for value in (((0, 1), (2, 1)), ((1, 7), (3, 7)), ((0, 1), (2, 2)), ((0, 1), (1, 1)))],
                         [("lead",), ("lead",), ("turn",), ("turn",)])
        # Their c's come to just 0.
        self.assertEqual(judge_bars(ACROSS, ((2, 1), (6, 1))), ("lead",))
        # Only the a's, only the b's.
        self.assertEqual([judge_bars(U, value) for value in (((3, 1), (5, 1)), ((3, 1), (5, 2)), ((2, 1), (4, 1)), ((0, 1), (2, 3), (3, 1)))],
                         [None, ("turn",), ("turn",), ("turn",)])
        self.assertEqual(judge_bars(U, ((0, 1), (3, 1), (5, 1))), ("turn",))
        # Three parallel walls: any weights that turn to nought.
        for value, expected in [(((1, 1), (3, 5), (5, 3)), None), (((1, 1), (3, 4), (5, 2)), ("lead",)),
                                (((1, 1), (3, 3), (5, 1)), ("lead",)), (((3, 3), (5, 5), (7, 1)), None),
                                (((3, 1), (5, 3), (7, 1)), ("lead",)), (((3, 1), (5, 1), (7, 1)), ("turn",))]:
            self.assertEqual(judge_bars(U, value), expected, value)

    def test_judge_bars_form(self):
        right = ((0, 2), (2, 5), (4, 5))
        for value in NONE_AT_ALL + [
                nested(30), list(right), right[::-1], ((0, 2), (4, 5), (2, 5)), ((0, 2), (2, 5), (2, 5)), right[:1],
                right + ((5, 1),), ((0, 0), (2, 5), (4, 5)), ((0, -2), (2, 5), (4, 5)), ((0, 2), (2, 5), (6, 5)),
                ((-1, 2), (2, 5), (4, 5)), ((False, 2), (2, 5), (4, 5)), ((0, 2), (2, 5), (4, True)), ((0, True), (3, 5)),
                ([0, 2], (2, 5), (4, 5)), ((0, 2, 1), (2, 5), (4, 5)), ((0,), (2, 5), (4, 5)), ((0, "2"), (2, 5), (4, 5)),
                ((0, 2), None, (4, 5)), ((0, 2), (2, (5, 1)), (4, 5)), ((0, 1), (0, 1)), (0, 2), ((0, 0), (3, 0))]:
            self.assertEqual(judge_bars(TEETH, value), ("form",), value)

    def test_judge_bars_by_the_words(self):
        kinds = {}
        for rng, room, _, sides in cases(6, 100, 12):
            for walls in combinations(range(len(room)), 3):
                one, other, third = [sides[i] for i in walls]
                turns = [cross(other, third), cross(third, one), cross(one, other)]
                if min(turns) <= 0 <= max(turns):
                    continue
                # As often as their turns tell, once in a while a little off.
                many = 9 * rng.randint(1, 3)
                weights = [int(abs(turn) * many) + (rng.random() < 0.1) for turn in turns]
                value = tuple(zip(walls, weights))
                found = sums(sides, value)
                expected = ("turn",) if found[:2] != [0, 0] else None if found[2] > 0 else ("lead",)
                self.assertEqual(judge_bars(room, value), expected)
                kinds[expected] = kinds.get(expected, 0) + 1
        self.assertTrue(all(kinds.get(kind, 0) > 10 for kind in (None, ("turn",), ("lead",))), kinds)


class MostSides(unittest.TestCase):
    def test_most_sides(self):
        self.assertEqual(most_sides(TEETH), (5, spot("-8,-33")))
        self.assertEqual(most_sides(ELL), (6, spot("0,0")))
        self.assertEqual(most_sides(SQUARE), (4, spot("0,0")))
        self.assertEqual(most_sides(spots("1,1 3,0 2,4")), (3, spot("1,1")))

    def test_by_the_words(self):
        outside = 0
        for rng, room, points, sides in cases(7, 150, 10):
            counts = [(sum(lead_by_words(side, p) >= 0 for side in sides), p) for p in crossings(sides)]
            most = max(counts)[0]
            expected = min(p for many, p in counts if many == most)
            self.assertEqual(most_sides(room), (most, spot_told(expected)))
            self.assertEqual(most == len(room), kernel(room) != ())
            outside += not is_room(room) or expected not in points
            for p in some_spots_in(rng, points)[-6:]:
                self.assertLessEqual(len(room) - len(walls_behind(room, spot_told(p))), most)
        self.assertGreater(outside, 10)


class Depth(unittest.TestCase):
    def test_shrunk_kernel(self):
        self.assertEqual(shrunk_kernel(ELL, frac("1/2")), spots("1/4,1/4 1/2,1/4 1/2,1/2 1/4,1/2"))
        self.assertEqual(shrunk_kernel(ELL, (0, 1)), kernel(ELL))
        self.assertEqual([shrunk_kernel(ELL, frac(lead)) for lead in ("2/3", "67/100", "1")], [spots("1/3,1/3"), (), ()])
        self.assertEqual([shrunk_kernel(SQUARE, frac(lead)) for lead in ("4", "8", "9")],
                         [spots("1,1 3,1 3,3 1,3"), spots("2,2"), ()])
        self.assertEqual(shrunk_kernel(TEETH, (0, 1)), ())

    def test_deepest(self):
        self.assertEqual(deepest(ELL), (frac("2/3"), spot("1/3,1/3")))
        self.assertEqual(deepest(SQUARE), ((8, 1), spot("2,2")))
        lead, at = deepest(ACROSS)
        self.assertEqual([lead, at[1]], [(0, 1), (2, 1)])
        self.assertLess(deepest(TEETH)[0][0], 0)
        self.assertEqual(deepest(U)[0], (-2, 1))

    def test_by_the_words(self):
        kinds = {}
        for _, room, _, sides in cases(8, 120, 12):
            lead, at = deepest(room)
            leads = [lead_by_words(side, numbers((at,))[0]) for side in sides]
            self.assertEqual(lead, told(min(leads)))
            # Nothing leads deeper: those with the least lead hold one another.
            self.assertTrue(hold([side for side, worth in zip(sides, leads) if worth == min(leads)]))
            self.assertEqual(kernel(room) != (), lead[0] >= 0)
            kind = (lead[0] > 0) - (lead[0] < 0)
            kinds[kind] = kinds.get(kind, 0) + 1
            for more in (Fraction(0), exact(lead) / 2, exact(lead), exact(lead) + Fraction(1, 10 ** 9)):
                if more >= 0:
                    shrunk = [(a, b, c + more) for a, b, c in sides]
                    found = shrunk_kernel(room, told(more))
                    self.assertEqual(found, kernel_by_words(shrunk))
                    self.assertEqual(found != (), more <= exact(lead))
            if lead[0] >= 0:
                self.assertIs(lies_in_form(shrunk_kernel(room, lead), at), True)
                self.assertEqual(form_area(shrunk_kernel(room, lead)), (0, 1))
        self.assertTrue(all(kinds.get(kind, 0) > 3 for kind in (-1, 1)), kinds)


if __name__ == "__main__":
    unittest.main()
