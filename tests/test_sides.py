"""Promises 9.1 and, as far as it tells of forms, 9.2."""

import unittest
from fractions import Fraction

from helpers import (
    clipped_by_words, dice, exact, frac, hull, inner_by_words, is_in_by_words, lead_by_words, lies_on, numbers, places,
    rows_of, some_room, spot, spot_told, spots, told, turn,
)
from ridgewatch.rooms import area, home, posed_room
from ridgewatch.sides import clipped, form_area, inner_side, inner_sides, is_on, lead_of, lies_in_form

ELL = spots("0,0 2,0 2,1 1,1 1,2 0,2")
FORM = spots("0,0 2,0 0,2")
HEXAGON = spots("0,1 1,0 2,0 3,1 2,2 1,2")


def some_point(rng, size=4):
    """A point of a small grid."""
    return (Fraction(rng.randint(0, size)), Fraction(rng.randint(0, size)))


def some_form(rng):
    """A form of any kind, by Python's own numbers."""
    return hull([some_point(rng) for _ in range(rng.choice((0, 1, 1, 2, 2, 3, 4, 6, 9)))])


def some_side(rng):
    """A side, by Python's own numbers: often one whose border goes over points of the grid."""
    a, b = 0, 0
    while a == b == 0:
        a, b = rng.randint(-3, 3), rng.randint(-3, 3)
    p = some_point(rng)
    return (Fraction(a), Fraction(b), a * p[0] + b * p[1])


def form_told(points):
    """The form of points in Python's own numbers."""
    return tuple(spot_told(p) for p in points)


def side_told(side):
    """The side of numbers of Python's own."""
    return tuple(told(Fraction(n)) for n in side)


class Sides(unittest.TestCase):
    def test_lead_of_above_at_and_below(self):
        side = places("1 -2 3")
        for at, lead in [("3,0", "0"), ("5,1", "0"), ("4,0", "1"), ("0,0", "-3"), ("1/2,1/4", "-3"), ("0,-3/2", "0"),
                         ("0,-2", "1"), ("10,1/3", "19/3")]:
            self.assertEqual(lead_of(side, spot(at)), frac(lead), at)
            self.assertIs(is_on(side, spot(at)), frac(lead)[0] >= 0)

    def test_by_the_words(self):
        rng = dice(1)
        for _ in range(100):
            side, p = some_side(rng), some_point(rng)
            lead = lead_by_words(side, p)
            self.assertEqual(lead_of(side_told(side), spot_told(p)), told(lead))
            self.assertIs(is_on(side_told(side), spot_told(p)), lead >= 0)

    def test_inner_sides(self):
        self.assertEqual(inner_sides(ELL), tuple(places(side) for side in (
            "0 2 0", "-1 0 -2", "0 -1 -1", "-1 0 -1", "0 -1 -2", "2 0 0")))
        self.assertEqual([inner_side(ELL, i) for i in range(6)], list(inner_sides(ELL)))
        self.assertEqual(inner_side(spots("0,0 1/2,1/3 0,1"), 0), places("-1/3 1/2 0"))
        self.assertEqual(inner_side(spots("1,1 3,2 1,4"), 2), places("3 0 3"))

    def test_inner_sides_by_the_words(self):
        rng = dice(2)
        for _ in range(60):
            room = some_room(rng, rng.randint(3, 10))
            points = numbers(room)
            sides = [side_told(side) for side in inner_by_words(points)]
            self.assertEqual(inner_sides(room), tuple(sides))
            for i, (p, q) in enumerate(rows_of(points)):
                self.assertEqual(inner_side(room, i), sides[i])
                self.assertEqual([lead_of(sides[i], spot_told(p)), lead_of(sides[i], spot_told(q))], [(0, 1)] * 2)
                # Its middle stepped inwards a little is on the side.
                middle = [(x + y) / 2 for x, y in zip(p, q)]
                step = (p[1] - q[1], q[0] - p[0])
                near = (middle[0] + step[0] / 10 ** 4, middle[1] + step[1] / 10 ** 4)
                self.assertTrue(is_in_by_words(points, near) and is_on(sides[i], spot_told(near)))


class Clipped(unittest.TestCase):
    def test_to_fewer_and_to_more_corners(self):
        for side, expected in [
                ("1 0 1", "1,0 2,0 1,1"), ("1 0 2", "2,0"), ("1 0 3", ""), ("0 -1 0", "0,0 2,0"), ("0 1 0", "0,0 2,0 0,2"),
                ("1 1 2", "0,2 2,0"), ("-1 -1 -2", "0,0 2,0 0,2"), ("-1 0 -1", "0,0 1,0 1,1 0,2"), ("-1 -1 0", "0,0"),
                ("1 -1 0", "0,0 2,0 1,1"), ("0 1 1", "0,1 1,1 0,2"), ("-1 0 1", ""), ("1 0 -1", "0,0 2,0 0,2"),
                ("1 1 1", "0,1 1,0 2,0 0,2"), ("-1 0 0", "0,0 0,2")]:
            self.assertEqual(clipped(FORM, places(side)), spots(expected), side)

    def test_begins_with_the_least_corner(self):
        self.assertEqual(clipped(HEXAGON, places("1 0 1")), spots("1,0 2,0 3,1 2,2 1,2"))
        self.assertEqual(clipped(HEXAGON, places("0 1 1")), spots("0,1 3,1 2,2 1,2"))
        self.assertEqual(clipped(HEXAGON, places("2 1 2")), spots("1/3,4/3 1,0 2,0 3,1 2,2 1,2"))
        self.assertEqual(clipped(HEXAGON, places("-1 0 -1/2")), spots("0,1 1/2,1/2 1/2,3/2"))
        self.assertEqual(clipped(HEXAGON, places("1 0 5/2")), spots("5/2,1/2 3,1 5/2,3/2"))
        self.assertEqual(clipped(HEXAGON, places("1 0 3")), spots("3,1"))
        self.assertEqual(clipped(HEXAGON, places("0 1 2")), spots("1,2 2,2"))

    def test_nothing_and_single_spots(self):
        for side, expected in (("1 0 1", ""), ("1 0 0", "")):
            self.assertEqual(clipped((), places(side)), spots(expected))
        for side, expected in (("1 0 1", "1,2"), ("1 0 2", ""), ("-1 0 -1", "1,2"), ("1 1 3", "1,2"), ("1 1 4", "")):
            self.assertEqual(clipped(spots("1,2"), places(side)), spots(expected), side)

    def test_stretches(self):
        for side, expected in [
                ("1 0 0", "0,0 2,4"), ("1 0 1", "1,2 2,4"), ("-1 0 -1", "0,0 1,2"), ("1 0 2", "2,4"), ("-1 0 0", "0,0"),
                ("1 0 3", ""), ("2 -1 0", "0,0 2,4"), ("-2 1 0", "0,0 2,4"), ("-2 1 1", ""), ("0 1 1", "1/2,1 2,4"),
                ("0 -1 -1", "0,0 1/2,1")]:
            self.assertEqual(clipped(spots("0,0 2,4"), places(side)), spots(expected), side)
        upright = spots("1,0 1,3")
        self.assertEqual([clipped(upright, places(side)) for side in ("0 1 1", "0 -1 -1", "0 1 3", "0 -1 0", "1 0 1")],
                         [spots("1,1 1,3"), spots("1,0 1,1"), spots("1,3"), spots("1,0"), upright])

    def test_by_the_words(self):
        rng = dice(3)
        kinds = {}
        for _ in range(1200):
            points, side = some_form(rng), some_side(rng)
            expected = clipped_by_words(points, side)
            self.assertEqual(clipped(form_told(points), side_told(side)), form_told(expected))
            kind = (min(len(points), 3), min(len(expected), 3))
            kinds[kind] = kinds.get(kind, 0) + 1
            # Again it changes nothing; of what is left the other side leaves what lies on the border.
            self.assertEqual(clipped(form_told(expected), side_told(side)), form_told(expected))
            border = clipped(form_told(expected), side_told(tuple(-n for n in side)))
            self.assertEqual(border, form_told(sorted(p for p in expected if lead_by_words(side, p) == 0)))
        for kind in ((0, 0), (1, 0), (1, 1), (2, 0), (2, 1), (2, 2), (3, 0), (3, 1), (3, 2), (3, 3)):
            self.assertGreater(kinds.get(kind, 0), 2, kinds)


class Looking(unittest.TestCase):
    def test_lies_in_form(self):
        for at, expected in [("0,0", True), ("1,1", True), ("1/2,1/2", True), ("1,0", True), ("0,1", True), ("2,0", True),
                             ("0,2", True), ("3,0", False), ("-1,0", False), ("0,-1", False), ("0,3", False),
                             ("2,1", False), ("1,11/10", False), ("-1/9,1", False), ("3,-1", False)]:
            self.assertIs(lies_in_form(FORM, spot(at)), expected, at)
        for at, expected in [("0,0", True), ("1,0", True), ("2,0", True), ("3,0", False), ("-1,0", False), ("1,1", False)]:
            self.assertIs(lies_in_form(FORM[:2], spot(at)), expected, at)
        self.assertEqual([lies_in_form(FORM[:1], spot(at)) for at in ("0,0", "1,0", "0,1")], [True, False, False])
        self.assertEqual([lies_in_form((), spot(at)) for at in ("0,0", "1,0")], [False, False])

    def test_lies_in_form_by_the_words(self):
        rng = dice(4)
        for _ in range(300):
            points, p = some_form(rng), some_point(rng)
            if len(points) < 3:
                expected = points != [] and lies_on(points[0], points[-1], p)
            else:
                expected = is_in_by_words(points, p)
            self.assertIs(lies_in_form(form_told(points), spot_told(p)), expected)

    def test_form_area(self):
        self.assertEqual([form_area(FORM[:k]) for k in range(4)], [(0, 1), (0, 1), (0, 1), (2, 1)])
        self.assertEqual([form_area(HEXAGON), form_area(spots("0,0 1/2,0 1/2,1/3"))], [(4, 1), (1, 12)])
        rng = dice(5)
        for _ in range(60):
            points, side = some_form(rng), some_side(rng)
            other = tuple(-n for n in side)
            total = sum(turn((0, 0), p, q) for p, q in rows_of(points)) / 2 if len(points) > 2 else 0
            self.assertEqual(form_area(form_told(points)), told(Fraction(total)))
            halves = [form_area(clipped(form_told(points), side_told(one))) for one in (side, other)]
            self.assertEqual(exact(halves[0]) + exact(halves[1]), total)

    def test_a_dentless_room_is_a_form(self):
        self.assertEqual([area(HEXAGON), home(posed_room(HEXAGON, 2))], [form_area(HEXAGON), spots("-3,-1 -2,-2 -1,-2 0,-1 -1,0 -2,0")])


if __name__ == "__main__":
    unittest.main()
