"""Promises 1.3 and 1.4, with 0.2 and 0.3 as they hold of them."""

import unittest
from fractions import Fraction

from helpers import NONE_AT_ALL, dice, exact, frac, nested, some_fraction, some_ridge, spot, spots, told
from ridgewatch.ridges import (
    cut, first_form, ground_at, is_ground_spot, is_height, is_place, is_ridge, joined, judge_ridge, line_of, mirrored,
    mirrored_ground, plain, refined, same_ground, sheared, shifted, slopes_of, spot_of, steepness, stretched, top_of,
)

PEAK = spots("0,0 2,4 4,0")
LONG = spots("-3,1 -1,1 1/2,5/2 4,-2 9/2,-2 6,7")
SHARES = [frac(t) for t in ("0", "1/7", "1/2", "5/6", "1")]


def some_grounds(rng, ridge, many):
    """Ground spots of the ridge, ends of slopes too."""
    return tuple((rng.randrange(slopes_of(ridge)), rng.choice(SHARES)) for _ in range(many))


class Judging(unittest.TestCase):
    def check(self, value, expected):
        self.assertEqual(repr(judge_ridge(value)), repr(expected))
        self.assertIs(is_ridge(value), expected is None)

    def test_ridges(self):
        for value in [PEAK, LONG, PEAK[:2], spots("-1/2,10 -1/3,10"), ((frac("-1"), (10 ** 60, 7)), spot("0,0"))]:
            self.check(value, None)

    def test_form(self):
        for value in NONE_AT_ALL:
            if not isinstance(value, tuple) or len(value) < 2:
                self.check(value, ("form",))
        for value in [PEAK[:1], (), list(PEAK), {0: PEAK[0], 1: PEAK[1]}, "ridge", None, True, PEAK[:1] * 1]:
            self.check(value, ("form",))

    def test_corner(self):
        for value in NONE_AT_ALL:
            self.check((value, PEAK[1]), ("corner", 0))
            self.check((PEAK[0], value), ("corner", 1))
            self.check(PEAK + (value, PEAK[0]), ("corner", 3))
            self.check(PEAK + (value, value), ("corner", 3))
        for value in NONE_AT_ALL + [nested(4), nested(30)]:
            self.check((PEAK[0], (value, (1, 1))), ("corner", 1))
            self.check((PEAK[0], ((1, 1), value)), ("corner", 1))
        self.check((PEAK[0], list(PEAK[1])), ("corner", 1))
        self.check((((0, 1), (0, 1)), ((True, 1), (0, 1))), ("corner", 1))
        self.check((((False, 1), (0, 1)), ((1, 1), (0, 1))), ("corner", 0))

    def test_ascend(self):
        self.check(PEAK[::-1], ("ascend", 1))
        self.check(spots("0,0 0,1"), ("ascend", 1))
        self.check(spots("0,0 0,0"), ("ascend", 1))
        self.check(spots("0,0 1,0 1/2,0 3,0"), ("ascend", 2))
        self.check(spots("0,0 1,0 2,0 2,0 1,0"), ("ascend", 3))
        self.check(spots("0,0 1/2,0 1/3,0 1/4,0"), ("ascend", 2))

    def test_the_first_of_several_faults(self):
        self.check((PEAK[1], PEAK[0], None), ("corner", 2))
        self.check((PEAK[1], None, PEAK[0], 5), ("corner", 1))


class Looking(unittest.TestCase):
    def test_slopes(self):
        self.assertEqual([slopes_of(PEAK), slopes_of(LONG), slopes_of(PEAK[:2])], [2, 5, 1])
        self.assertEqual([steepness(LONG, i) for i in range(5)], [frac(x) for x in ("0", "1", "-9/7", "0", "6")])

    def test_line_and_top(self):
        self.assertEqual([line_of(LONG), top_of(LONG)], [((-3, 1), (6, 1)), (7, 1)])
        self.assertEqual([line_of(PEAK), top_of(PEAK)], [((0, 1), (4, 1)), (4, 1)])
        self.assertEqual(top_of(spots("0,-3 1,-5/2 2,-4")), (-5, 2))

    def test_is_ground_spot(self):
        for i in range(5):
            for t in SHARES:
                self.assertIs(is_ground_spot(LONG, (i, t)), True)
        for value in NONE_AT_ALL:
            self.assertIs(is_ground_spot(LONG, value), False, value)
            self.assertIs(is_ground_spot(LONG, (0, value)), False, value)
            if value not in (0, 1) or value in (True, False) and isinstance(value, bool):
                self.assertIs(is_ground_spot(LONG, (value, (1, 2))), False, value)
        for value in [(5, (0, 1)), (-1, (1, 2)), (0, (-1, 2)), (0, (3, 2)), (0, (2, 4)), [0, (1, 2)], (0, [1, 2]),
                      (True, (1, 2)), (False, (1, 2)), (0, (True, 1)), (0, (False, 1)), (0, (1, 2), 0), ((1, 2), 0),
                      (0, (10 ** 59 + 1, 10 ** 59)), (10 ** 59, (1, 2)), ((0, 1), (1, 2))]:
            self.assertIs(is_ground_spot(LONG, value), False, value)

    def test_is_height(self):
        for value, expected in [("7", False), ("6", False), ("-9", False), ("8", True), ("71/10", True)]:
            self.assertIs(is_height(LONG, frac(value)), expected)
        for value in NONE_AT_ALL + [(8, True), (16, 2), [8, 1], nested(2)]:
            self.assertIs(is_height(LONG, value), False, value)

    def test_is_place(self):
        for value, expected in [("-3", True), ("6", True), ("0", True), ("1/7", True), ("-31/10", False),
                                ("61/10", False)]:
            self.assertIs(is_place(LONG, frac(value)), expected)
        for value in NONE_AT_ALL + [(1, True), (False, 1), (2, 2), [1, 1], nested(2)]:
            self.assertIs(is_place(LONG, value), False, value)

    def test_spot_of(self):
        self.assertEqual(spot_of(PEAK, (0, (1, 4))), spot("1/2,1"))
        for i in range(5):
            self.assertEqual([spot_of(LONG, (i, (0, 1))), spot_of(LONG, (i, (1, 1)))], [LONG[i], LONG[i + 1]])

    def test_ground_at(self):
        self.assertEqual([ground_at(LONG, corner[0]) for corner in LONG],
                         [(i, (0, 1)) for i in range(5)] + [(4, (1, 1))])
        self.assertEqual(ground_at(LONG, frac("-5/2")), (0, (1, 4)))
        for x in ("-4", "-301/100", "601/100", "99"):
            self.assertIsNone(ground_at(LONG, frac(x)))

    def test_ground_at_and_spot_of(self):
        rng = dice(2)
        for _ in range(40):
            ridge = some_ridge(rng, rng.randint(2, 8))
            for i, t in some_grounds(rng, ridge, 8):
                x = spot_of(ridge, (i, t))[0]
                self.assertEqual(spot_of(ridge, ground_at(ridge, x)), spot_of(ridge, (i, t)))
                if t != (1, 1):
                    self.assertEqual(ground_at(ridge, x), (i, t))

    def test_first_form(self):
        for i in range(5):
            self.assertEqual(first_form(LONG, (i, (0, 1))), (i, (0, 1)))
            self.assertEqual(first_form(LONG, (i, (1, 3))), (i, (1, 3)))
            self.assertEqual(first_form(LONG, (i, (1, 1))), (i + 1, (0, 1)) if i < 4 else (4, (1, 1)))


class Making(unittest.TestCase):
    def test_shifted_and_stretched_and_sheared(self):
        self.assertEqual(shifted(PEAK, (-1, 2), (3, 1)), spots("-1/2,3 3/2,7 7/2,3"))
        self.assertEqual(stretched(PEAK, (1, 2), (3, 1)), spots("0,0 1,12 2,0"))
        self.assertEqual(sheared(PEAK, (-1, 2)), spots("0,0 2,3 4,-2"))
        self.assertEqual(sheared(spots("-2,1 2,1"), (1, 2)), spots("-2,0 2,2"))

    def test_mirrored(self):
        self.assertEqual(mirrored(LONG), spots("-6,7 -9/2,-2 -4,-2 -1/2,5/2 1,1 3,1"))
        self.assertEqual(mirrored(mirrored(LONG)), LONG)

    def test_mirrored_ground(self):
        self.assertEqual([mirrored_ground(LONG, (0, (1, 4))), mirrored_ground(LONG, (4, (0, 1))),
                          mirrored_ground(LONG, (2, (1, 1)))], [(4, (3, 4)), (0, (1, 1)), (2, (0, 1))])
        for i in range(5):
            for t in SHARES:
                x, y = spot_of(LONG, (i, t))
                self.assertEqual(spot_of(mirrored(LONG), mirrored_ground(LONG, (i, t))), ((-x[0], x[1]), y))

    def test_joined(self):
        self.assertEqual(joined(PEAK, LONG[:3]), spots("0,0 2,4 4,0 6,0 15/2,3/2"))
        self.assertEqual(joined(PEAK, PEAK), spots("0,0 2,4 4,0 6,4 8,0"))

    def test_cut_at_corners_and_between(self):
        self.assertEqual(cut(LONG, frac("-1"), frac("4")), LONG[1:4])
        self.assertEqual(cut(LONG, frac("-3"), frac("6")), LONG)
        self.assertEqual(cut(PEAK, frac("1/2"), frac("3")), spots("1/2,1 2,4 3,2"))
        self.assertEqual(cut(PEAK, frac("1/2"), frac("1")), spots("1/2,1 1,2"))
        self.assertEqual(cut(PEAK, frac("2"), frac("3")), spots("2,4 3,2"))

    def test_refined(self):
        grounds = ((1, (0, 1)), (0, (1, 2)), (0, (1, 2)), (0, (1, 1)), (1, (1, 2)), (0, (1, 4)), (0, (0, 1)),
                   (1, (1, 1)))
        self.assertEqual(refined(PEAK, grounds), spots("0,0 1/2,1 1,2 2,4 3,2 4,0"))
        self.assertEqual(refined(PEAK, ()), PEAK)

    def test_plain(self):
        self.assertEqual(plain(spots("0,0 1,1 2,2 3,3 4,3 5,3 6,4")), spots("0,0 3,3 5,3 6,4"))
        self.assertEqual(plain(spots("0,5 1,5 2,5 3,5")), spots("0,5 3,5"))
        self.assertEqual([plain(PEAK), plain(PEAK[:2])], [PEAK, PEAK[:2]])

    def test_same_ground(self):
        self.assertIs(same_ground(spots("0,0 1,1 2,2"), spots("0,0 1/2,1/2 2,2")), True)
        self.assertIs(same_ground(PEAK, shifted(PEAK, (0, 1), (1, 1))), False)
        self.assertIs(same_ground(PEAK, PEAK + spots("5,-2")), False)
        self.assertIs(same_ground(PEAK, PEAK), True)


class ForAll(unittest.TestCase):
    def setUp(self):
        rng = dice(7)
        self.cases = []
        for _ in range(40):
            ridge = some_ridge(rng, rng.randint(2, 9), most=2)
            self.cases.append((rng, ridge, some_grounds(rng, ridge, 7)))

    def test_refined_and_plain_have_the_same_ground(self):
        for _, ridge, grounds in self.cases:
            more = refined(ridge, grounds)
            self.assertTrue(is_ridge(more))
            self.assertEqual(plain(more), plain(ridge))
            self.assertIs(same_ground(more, ridge), True)
            xs = sorted({exact(spot_of(ridge, g)[0]) for g in grounds} | {exact(corner[0]) for corner in ridge})
            self.assertEqual([exact(corner[0]) for corner in more], xs)

    def test_plain_leaves_no_straight_corner(self):
        for _, ridge, grounds in self.cases:
            left = plain(refined(ridge, grounds))
            for i in range(slopes_of(left) - 1):
                self.assertNotEqual(steepness(left, i), steepness(left, i + 1))

    def test_corners_go_along(self):
        for rng, ridge, _ in self.cases:
            a, b, s = some_fraction(rng), some_fraction(rng), some_fraction(rng)
            up = (abs(a[0]) + 1, a[1])
            up = told(exact(up))
            for k, (x, y) in enumerate(ridge):
                self.assertEqual(shifted(ridge, a, b)[k], (told(exact(x) + exact(a)), told(exact(y) + exact(b))))
                self.assertEqual(stretched(ridge, up, up)[k], (told(exact(x) * exact(up)), told(exact(y) * exact(up))))
                self.assertEqual(sheared(ridge, s)[k], (x, told(exact(y) + exact(s) * exact(x))))
            for other in [shifted(ridge, a, b), mirrored(ridge), stretched(ridge, up, up), sheared(ridge, s),
                          joined(ridge, mirrored(ridge))]:
                self.assertIsNone(judge_ridge(other))

    def test_cut_is_the_ground_between(self):
        for rng, ridge, grounds in self.cases:
            xs = sorted({exact(spot_of(ridge, g)[0]) for g in grounds} | {exact(corner[0]) for corner in ridge[:1]})
            if len(xs) > 1:
                a, b = xs[0], xs[-1]
                part = cut(ridge, told(a), told(b))
                self.assertIsNone(judge_ridge(part))
                self.assertEqual(line_of(part), (told(a), told(b)))
                for k in range(9):
                    x = told(a + (b - a) * Fraction(k, 8))
                    self.assertEqual(spot_of(part, ground_at(part, x)), spot_of(ridge, ground_at(ridge, x)))

    def test_same_calls_same_answers_and_nothing_modified(self):
        for _, ridge, grounds in self.cases:
            before = repr((ridge, grounds))
            self.assertEqual(refined(ridge, grounds), refined(ridge, list(grounds)))
            self.assertEqual([joined(ridge, ridge), mirrored(ridge)], [joined(ridge, ridge), mirrored(ridge)])
            self.assertEqual(repr((ridge, grounds)), before)


if __name__ == "__main__":
    unittest.main()
