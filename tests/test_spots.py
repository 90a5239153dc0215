"""Promise 1.2."""

import unittest
from fractions import Fraction

from helpers import NONE_AT_ALL, dice, exact, frac, nested, spot, spots, told
from ridgewatch.fractions import compared, is_fraction, multiplied, turned
from ridgewatch.spots import (
    area_twice, crossing, do_meet, height_at, is_between, is_spot, place_at, side_of, spot_between,
)

FAR = spot("12345678901234567891/98765432109876543211,-98765432109876543211/3")
HUGE = ((10 ** 59 + 7, 3), (-10 ** 59, 10 ** 58 + 1))


def some_spot(rng, size=3):
    """A spot of a small grid, so that lines, ends and spots often fall together."""
    return tuple(told(Fraction(rng.randint(-size, size), rng.choice((1, 1, 2)))) for _ in range(2))


def numbers(a):
    """The two numbers of Python's own."""
    return exact(a[0]), exact(a[1])


def turn(a, b, c):
    """The turn at a from b to c, by Python's own numbers."""
    (p, q), (r, s), (u, v) = numbers(a), numbers(b), numbers(c)
    return (r - p) * (v - q) - (s - q) * (u - p)


class IsSpot(unittest.TestCase):
    def test_spots(self):
        for value in [spot("0,0"), spot("-1/2,7/3"), FAR, HUGE]:
            self.assertIs(is_spot(value), True)

    def test_others(self):
        for value in NONE_AT_ALL:
            self.assertIs(is_spot(value), False, value)
            self.assertIs(is_spot((value, (1, 2))), False, value)
            self.assertIs(is_spot(((1, 2), value)), False, value)

    def test_edges(self):
        for value in [((1, 2),), ((1, 2), (1, 2), (1, 2)), [(1, 2), (1, 2)], ([1, 2], (1, 2)), ((1, 2), [1, 2]),
                      ((2, 4), (1, 2)), ((1, 2), (True, 2)), ((1, True), (1, 2)), ((1, 0), (1, 2)), ((1, 2), (1, -2)),
                      (1, 2), nested(2), nested(30), (((1, 2), (1, 2)), (1, 2)), {(1, 2): (1, 2)}]:
            self.assertIs(is_spot(value), False, value)


class Lines(unittest.TestCase):
    def test_side_of(self):
        rng = dice(1)
        for _ in range(300):
            a, b, c = [some_spot(rng) for _ in range(3)]
            if a != b:
                worth = turn(a, b, c)
                self.assertEqual(side_of(a, b, c), (worth > 0) - (worth < 0))

    def test_side_of_in_one_line(self):
        a, b = spot("0,0"), spot("2,1")
        for c in ("0,0", "2,1", "1,1/2", "4,2", "-2,-1"):
            self.assertEqual(side_of(a, b, spot(c)), 0)
        self.assertEqual([side_of(FAR, HUGE, FAR), side_of(FAR, HUGE, spot_between(FAR, HUGE, (7, 3)))], [0, 0])

    def test_height_at_and_place_at(self):
        rng = dice(2)
        for _ in range(300):
            a, b = some_spot(rng), some_spot(rng)
            x = some_spot(rng)[0]
            (p, q), (r, s) = numbers(a), numbers(b)
            if p != r:
                self.assertEqual(height_at(a, b, x), told(q + (exact(x) - p) * (s - q) / (r - p)))
            if q != s:
                self.assertEqual(place_at(a, b, x), told(p + (exact(x) - q) * (r - p) / (s - q)))

    def test_height_at_of_large_numbers(self):
        x = spot_between(FAR, HUGE, (1, 7))
        self.assertEqual(height_at(FAR, HUGE, x[0]), x[1])
        self.assertEqual(place_at(FAR, HUGE, x[1]), x[0])

    def test_level_and_upright(self):
        self.assertEqual(height_at(spot("0,3"), spot("5,3"), frac("9/2")), (3, 1))
        self.assertEqual(place_at(spot("2,0"), spot("2,5"), frac("-9/2")), (2, 1))

    def test_crossing(self):
        rng = dice(3)
        for _ in range(400):
            a, b, c, d = [some_spot(rng) for _ in range(4)]
            if a == b or c == d:
                continue
            found = crossing(a, b, c, d)
            parallel = turn(((0, 1), (0, 1)), self.way(a, b), self.way(c, d)) == 0
            self.assertEqual(found is None, parallel)
            if found is not None:
                self.assertTrue(is_spot(found))
                self.assertEqual([side_of(a, b, found), side_of(c, d, found)], [0, 0])

    def way(self, a, b):
        (p, q), (r, s) = numbers(a), numbers(b)
        return (told(r - p), told(s - q))

    def test_crossing_beyond_the_stretches(self):
        self.assertEqual(crossing(spot("0,0"), spot("1,1"), spot("10,0"), spot("9,1")), spot("5,5"))

    def test_crossing_of_parallel_lines_and_one_line(self):
        a, b = spot("0,0"), spot("2,1")
        for c, d in [("0,1", "2,2"), ("2,2", "0,1"), ("0,0", "2,1"), ("4,2", "6,3"), ("2,1", "-2,-1")]:
            self.assertIsNone(crossing(a, b, spot(c), spot(d)))

    def test_spot_between(self):
        a, b = spot("1,-2"), spot("4,7/2")
        self.assertEqual([spot_between(a, b, frac(t)) for t in ("0", "1", "1/2", "-1", "2")],
                         [a, b, spot("5/2,3/4"), spot("-2,-15/2"), spot("7,9")])
        self.assertEqual(spot_between(a, a, frac("1/3")), a)


class Stretches(unittest.TestCase):
    def test_is_between(self):
        a, b = spot("0,0"), spot("4,2")
        for c, expected in [("0,0", True), ("4,2", True), ("2,1", True), ("6,3", False), ("-2,-1", False),
                            ("2,2", False), ("1,0", False)]:
            self.assertIs(is_between(a, b, spot(c)), expected)
            self.assertIs(is_between(b, a, spot(c)), expected)

    def test_is_between_upright_and_level(self):
        self.assertEqual([is_between(spot("1,0"), spot("1,4"), spot(c)) for c in ("1,0", "1,4", "1,3", "1,5", "1,-1")],
                         [True, True, True, False, False])
        self.assertEqual([is_between(spot("0,1"), spot("4,1"), spot(c)) for c in ("0,1", "4,1", "3,1", "5,1", "-1,1")],
                         [True, True, True, False, False])

    def test_is_between_of_a_single_spot(self):
        a = spot("1/2,3")
        self.assertEqual([is_between(a, a, a), is_between(a, a, spot("1/2,4")), is_between(a, a, spot("1,3")),
                          is_between(a, a, spot("5,5"))], [True, False, False, False])

    def test_do_meet_at_edges(self):
        for a, b, c, d, expected in [
                ("0,0", "2,2", "0,2", "2,0", True),  # across
                ("0,0", "2,0", "2,0", "4,4", True),  # end to end
                ("0,0", "4,0", "2,0", "2,5", True),  # an end upon the other one
                ("0,0", "4,0", "2,1", "2,5", False),
                ("0,0", "4,0", "2,0", "6,0", True),  # in one line, a part in common
                ("0,0", "4,0", "1,0", "2,0", True),
                ("0,0", "4,0", "4,0", "6,0", True),
                ("0,0", "4,0", "5,0", "6,0", False),
                ("0,0", "4,0", "0,1", "4,1", False),
                ("0,0", "4,4", "3,0", "4,3", False),
                ("1,1", "1,1", "0,0", "2,2", True),  # single spots
                ("1,1", "1,1", "0,0", "1,0", False),
                ("1,1", "1,1", "1,1", "1,1", True),
                ("1,1", "1,1", "1,2", "1,2", False),
                ("0,0", "2,2", "3,3", "3,3", False)]:
            a, b, c, d = spot(a), spot(b), spot(c), spot(d)
            for one, other in [((a, b), (c, d)), ((b, a), (c, d)), ((c, d), (a, b)), ((d, c), (b, a))]:
                self.assertIs(do_meet(*one, *other), expected)

    def test_do_meet_is_what_crossing_tells(self):
        rng = dice(4)
        for _ in range(500):
            a, b, c, d = [some_spot(rng) for _ in range(4)]
            if a == b or c == d:
                continue
            found = crossing(a, b, c, d)
            if found is not None:
                expected = is_between(a, b, found) and is_between(c, d, found)
            else:
                expected = is_between(a, b, c) or is_between(a, b, d) or is_between(c, d, a)
            self.assertIs(do_meet(a, b, c, d), expected)

    def test_large_numbers(self):
        middle = spot_between(FAR, HUGE, (1, 3))
        self.assertIs(is_between(FAR, HUGE, middle), True)
        self.assertIs(is_between(FAR, middle, HUGE), False)
        self.assertIs(do_meet(FAR, HUGE, middle, spot("0,0")), True)
        self.assertEqual(crossing(FAR, HUGE, middle, spot("0,0")), middle)


class Areas(unittest.TestCase):
    def test_with_and_against_the_clock(self):
        room = spots("0,0 4,0 4,3 1,3/2 0,3")
        self.assertEqual([area_twice(room), area_twice(room[::-1])], [(18, 1), (-18, 1)])
        for k in range(5):
            self.assertEqual(area_twice(room[k:] + room[:k]), (18, 1))

    def test_nothing_gone_round(self):
        self.assertEqual(area_twice(spots("0,0 1,1 2,2")), (0, 1))
        self.assertEqual(area_twice(spots("0,0 2,2 2,0 0,2")), (0, 1))

    def test_by_the_words(self):
        rng = dice(6)
        for _ in range(60):
            room = tuple(some_spot(rng) for _ in range(rng.randint(3, 8)))
            total = Fraction(0)
            for (x, y), (u, v) in zip(map(numbers, room), map(numbers, room[1:] + room[:1])):
                total += x * v - u * y
            self.assertEqual(area_twice(room), told(total))

    def test_mirrored_by_the_upright_line(self):
        room = (FAR, HUGE, spot("1,1"))
        self.assertTrue(is_fraction(area_twice(room)))
        self.assertEqual(area_twice(tuple((turned(x), y) for x, y in room)), turned(area_twice(room)))
        self.assertEqual(compared(multiplied(area_twice(room), area_twice(room[::-1])), (0, 1)), -1)


if __name__ == "__main__":
    unittest.main()
