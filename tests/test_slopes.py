"""Promises 4.1 to 4.5."""

import unittest
from fractions import Fraction

from helpers import NONE_AT_ALL, dice, ends_by_words, exact, frac, nested, numbers, side_by_words, some_ridge, spots, told
from ridgewatch.fractions import compared, lessened
from ridgewatch.ridges import line_of, mirrored, slopes_of, top_of
from ridgewatch.sight import reach, sees
from ridgewatch.slopes import (
    covered_parts, end_on, first_left, is_covered, judge_part, last_right, left_pieces, right_pieces, seen_part,
    slope_reach, span_floor,
)

TEETH = spots("0,2 2,0 4,2 6,0")
H = frac("3")
WHOLE = ((0, 1), (1, 1))
NOUGHT, ONE = (0, 1), (1, 1)


def turning_shares(ridge, h, i):
    """All shares at which two marks of the ridge, or the line's ends, stand in one line with the spot."""
    points = numbers(ridge)
    (p, q), (r, s) = points[i], points[i + 1]
    points = points + [(points[0][0], h), (points[-1][0], h)]
    found = {Fraction(0), Fraction(1)}
    for k, (u, v) in enumerate(points):
        for (a, b) in points[:k]:
            turn = (r - p) * (b - v) - (s - q) * (a - u)
            if turn:
                t = ((u - p) * (b - v) - (v - q) * (a - u)) / turn
                if 0 < t < 1:
                    found.add(t)
    return sorted(found)


def pieces_by_words(ridge, h, i, sign):
    """The pieces of 4.2, from the middles between all turning shares."""
    shares = turning_shares(ridge, h, i)
    found = []
    for t1, t2 in zip(shares, shares[1:]):
        c = side_by_words(ridge, h, i, (t1 + t2) / 2, sign)[1]
        if found and found[-1][2] == c:
            found[-1] = (found[-1][0], told(t2), c)
        else:
            found.append((told(t1), told(t2), c))
    return tuple(found)


def cases(seed, many, corners=8):
    """Ridges and heights."""
    rng = dice(seed)
    for _ in range(many):
        ridge = some_ridge(rng, rng.randint(2, corners), high=rng.choice((3, 8)), most=rng.choice((1, 1, 3)))
        yield rng, ridge, told(exact(top_of(ridge)) + Fraction(rng.randint(1, 12), rng.randint(1, 4)))


def samples(ridge, h, i):
    """Shares of all kinds: 0, 1, the turning ones and those between."""
    shares = turning_shares(ridge, h, i)
    return sorted(shares + [(a + b) / 2 for a, b in zip(shares, shares[1:])])


class SlopeReach(unittest.TestCase):
    def test_by_the_words(self):
        for _, ridge, h in cases(1, 40):
            for i in range(slopes_of(ridge)):
                last = None
                for t in samples(ridge, exact(h), i):
                    left, right = ends_by_words(ridge, exact(h), i, t)
                    self.assertEqual(slope_reach(ridge, h, i, told(t)), (told(left), told(right)))
                    if last is not None:
                        self.assertTrue(left <= last[0] and right <= last[1])
                    last = left, right

    def test_it_is_the_reach_inside_and_within_it_at_ends(self):
        for _, ridge, h in cases(2, 40):
            for i in range(slopes_of(ridge)):
                for t in (frac("1/7"), frac("1/2"), frac("9/10")):
                    self.assertEqual(slope_reach(ridge, h, i, t), reach(ridge, h, (i, t)))
                for t in (NOUGHT, ONE):
                    inner, outer = slope_reach(ridge, h, i, t), reach(ridge, h, (i, t))
                    self.assertTrue(compared(inner[0], outer[0]) >= 0 >= compared(inner[1], outer[1]))

    def test_ends(self):
        self.assertEqual([slope_reach(TEETH, H, 2, NOUGHT), reach(TEETH, H, (2, NOUGHT))],
                         [(frac("3"), frac("6")), (frac("0"), frac("6"))])
        self.assertEqual([slope_reach(TEETH, H, 1, ONE), reach(TEETH, H, (1, ONE))],
                         [(frac("0"), frac("5")), (frac("0"), frac("6"))])

    def test_level(self):
        level = spots("0,5 1,2 3,2 4,5")
        self.assertEqual([slope_reach(level, (6, 1), 1, t) for t in (NOUGHT, frac("1/2"), ONE)],
                         [(NOUGHT, frac("4")), (NOUGHT, frac("4")), (NOUGHT, frac("4"))])
        self.assertEqual([slope_reach(level, (14, 1), 1, t) for t in (NOUGHT, frac("1/2"), ONE)],
                         [(NOUGHT, frac("4"))] * 3)
        pit = spots("-9,0 0,5 1,2 3,2 4,5 13,0")
        self.assertEqual(slope_reach(pit, (8, 1), 1, ONE), (frac("-1"), frac("7")))
        self.assertEqual([slope_reach(pit, (8, 1), 2, t) for t in (NOUGHT, frac("1/2"), ONE)],
                         [(frac("-1"), frac("7")), (frac("-2"), frac("6")), (frac("-3"), frac("5"))])


class Pieces(unittest.TestCase):
    def test_by_the_words(self):
        several = 0
        for _, ridge, h in cases(3, 150):
            for i in range(slopes_of(ridge)):
                left, right = left_pieces(ridge, h, i), right_pieces(ridge, h, i)
                self.assertEqual(left, pieces_by_words(ridge, exact(h), i, -1))
                self.assertEqual(right, pieces_by_words(ridge, exact(h), i, 1))
                several += (len(left) > 1) + (len(right) > 1)
        self.assertGreater(several, 50)

    def test_three_and_more_pieces(self):
        ridge = spots("-90,0 0,11 3,8 4,6 5,3 12,3 13,4")
        self.assertEqual(left_pieces(ridge, (12, 1), 4),
                         ((NOUGHT, frac("1/14"), 3), (frac("1/14"), frac("3/7"), 2), (frac("3/7"), ONE, 1)))
        self.assertEqual(right_pieces(mirrored(ridge), (12, 1), 1),
                         ((NOUGHT, frac("4/7"), 5), (frac("4/7"), frac("13/14"), 4), (frac("13/14"), ONE, 3)))

    def test_of_several_corners_met_at_one_share_the_farthest_goes_on(self):
        ridge = spots("-90,0 0,11 3,8 4,7 5,3 12,3 13,4")
        self.assertEqual(left_pieces(ridge, (12, 1), 4), ((NOUGHT, frac("3/7"), 3), (frac("3/7"), ONE, 1)))
        self.assertEqual(right_pieces(mirrored(ridge), (12, 1), 1), ((NOUGHT, frac("4/7"), 5), (frac("4/7"), ONE, 3)))
        begun = spots("-90,0 0,11 3,8 4,7 8,3 12,3 13,4")
        self.assertEqual(left_pieces(begun, (12, 1), 4), ((NOUGHT, ONE, 1),))

    def test_own_line(self):
        self.assertEqual(left_pieces(TEETH, H, 2), ((NOUGHT, ONE, 2),))
        self.assertEqual(right_pieces(TEETH, H, 1), ((NOUGHT, ONE, 2),))
        self.assertEqual([left_pieces(TEETH, H, 0), left_pieces(TEETH, H, 1)], [((NOUGHT, ONE, None),)] * 2)

    def test_of_several_corners_in_one_sight_all_along_the_nearest(self):
        straight = spots("-9,0 0,6 1,5 2,4 3,3 4,2 5,8")
        for i in (1, 2, 3, 4):
            self.assertEqual(left_pieces(straight, (9, 1), i), ((NOUGHT, ONE, i),))
            self.assertEqual(right_pieces(mirrored(straight), (9, 1), 5 - i), ((NOUGHT, ONE, 6 - i),))

    def test_none_where_the_place_is_ahead_of_the_first_corner(self):
        ridge = spots("0,4 1,4 2,0 6,0 7,4")
        self.assertEqual(left_pieces(ridge, (5, 1), 2), ((NOUGHT, frac("3/4"), 1), (frac("3/4"), ONE, None)))
        # Just at the first corner's place all along: that is not less.
        self.assertEqual(left_pieces(spots("0,0 1,4 5,0"), (5, 1), 1), ((NOUGHT, ONE, 1),))
        self.assertEqual(left_pieces(spots("0,0 1,4 5,0"), frac("51/10"), 1), ((NOUGHT, ONE, None),))

    def test_the_ends_of_pieces_are_the_ends_of_sight(self):
        for _, ridge, h in cases(4, 40):
            for i in range(slopes_of(ridge)):
                for side, pieces in ((0, left_pieces(ridge, h, i)), (1, right_pieces(ridge, h, i))):
                    self.assertEqual([pieces[0][0], pieces[-1][1]], [NOUGHT, ONE])
                    for t1, t2, c in pieces:
                        self.assertLess(compared(t1, t2), 0)
                        for t in (t1, told((exact(t1) + exact(t2)) / 2), t2):
                            expected = slope_reach(ridge, h, i, t)[side]
                            if c is None:
                                self.assertEqual(expected, line_of(ridge)[side])
                                self.assertIsNone(end_on(ridge, h, i, c, t))
                            else:
                                self.assertEqual(end_on(ridge, h, i, c, t), expected)
                    for one, other in zip(pieces, pieces[1:]):
                        self.assertEqual(one[1], other[0])
                        self.assertNotEqual(one[2], other[2])


class EndOn(unittest.TestCase):
    def test_each_kind_of_corner(self):
        self.assertEqual([end_on(TEETH, H, 0, 2, ONE), end_on(TEETH, H, 2, 2, frac("1/3")), end_on(TEETH, H, 1, None, NOUGHT)],
                         [frac("5"), frac("3"), None])
        for t in (NOUGHT, frac("1/2"), ONE):
            self.assertEqual([end_on(TEETH, H, 0, c, t) for c in (0, 1, None)], [frac("-1"), frac("-1"), None])
            self.assertEqual([end_on(TEETH, H, 1, c, t) for c in (1, 2)], [frac("5"), frac("5")])

    def test_beyond_the_line(self):
        self.assertEqual(end_on(TEETH, H, 1, 0, frac("1/4")), frac("-5/3"))
        self.assertEqual(end_on(TEETH, (90, 1), 0, 2, ONE), frac("92"))
        self.assertEqual(end_on(TEETH, H, 2, 0, frac("1/2")), frac("-5"))


class SeenParts(unittest.TestCase):
    def test_by_the_words(self):
        for rng, ridge, h in cases(5, 50):
            start, end = [exact(x) for x in line_of(ridge)]
            for i in range(slopes_of(ridge)):
                shares = samples(ridge, exact(h), i)
                drones = {start, end, (start + end) / 2, start + (end - start) * Fraction(rng.randint(0, 9), 9)}
                drones |= set(ends_by_words(ridge, exact(h), i, rng.choice(shares)))
                for x in drones:
                    self.check(ridge, h, i, x, shares)

    def check(self, ridge, h, i, x, shares):
        left, right = first_left(ridge, h, i, told(x)), last_right(ridge, h, i, told(x))
        part = seen_part(ridge, h, i, told(x))
        both = left is not None and right is not None and compared(left, right) <= 0
        self.assertEqual(part, (left, right) if both else None)
        tiny = Fraction(1, 10 ** 30)
        for t in [exact(end) + step for end in (left, right) if end is not None for step in (-tiny, 0, tiny)] + shares:
            if not 0 <= t <= 1:
                continue
            low, high = ends_by_words(ridge, exact(h), i, t)
            self.assertEqual(low <= x, left is not None and exact(left) <= t)
            self.assertEqual(high >= x, right is not None and exact(right) >= t)
            inside = part is not None and exact(part[0]) <= t <= exact(part[1])
            self.assertEqual(low <= x <= high, inside)
            if 0 < t < 1:
                self.assertEqual(sees(ridge, h, told(x), (i, told(t))), inside)

    def test_a_greater_drone_sees_a_part_further_left(self):
        for _, ridge, h in cases(6, 30):
            start, end = [exact(x) for x in line_of(ridge)]
            drones = [told(start + (end - start) * Fraction(k, 10)) for k in range(11)]
            for i in range(slopes_of(ridge)):
                parts = [part for part in [seen_part(ridge, h, i, x) for x in drones] if part is not None]
                for one, other in zip(parts, parts[1:]):
                    self.assertTrue(compared(other[0], one[0]) <= 0 >= compared(other[1], one[1]))

    def test_drones_at_the_ends_of_reaches_and_just_beyond(self):
        self.assertEqual([first_left(TEETH, H, 2, frac(x)) for x in ("3", "299/100", "301/100", "0")],
                         [NOUGHT, None, NOUGHT, None])
        self.assertEqual([last_right(TEETH, H, 0, frac(x)) for x in ("0", "5", "501/100", "6")],
                         [ONE, ONE, frac("200/201"), frac("2/3")])
        self.assertEqual([seen_part(TEETH, H, 1, frac(x)) for x in ("5", "501/100", "0")], [WHOLE, None, WHOLE])

    def test_a_single_share(self):
        pit = spots("0,3 1,0 2,4 9,4")
        self.assertEqual([seen_part(pit, (5, 1), 0, frac(x)) for x in ("4", "41/10", "39/10")],
                         [(NOUGHT, NOUGHT), None, (NOUGHT, frac("1/67"))])
        self.assertEqual([seen_part(mirrored(pit), (5, 1), 2, frac(x)) for x in ("-4", "-41/10")], [(ONE, ONE), None])
        self.assertEqual(covered_parts(pit, (5, 1), 0, [frac("4")]), ((NOUGHT, NOUGHT),))
        found = 0
        for _, ridge, h in cases(7, 60):
            for i in range(slopes_of(ridge)):
                for x in (slope_reach(ridge, h, i, NOUGHT)[1], slope_reach(ridge, h, i, ONE)[0]):
                    part = seen_part(ridge, h, i, x)
                    if part is not None and part[0] == part[1]:
                        found += 1
                        self.assertEqual(covered_parts(ridge, h, i, [x, x]), (part,))
                        self.assertIs(is_covered(ridge, h, i, [x]), False)
        self.assertGreater(found, 3)

    def test_judge_part(self):
        for x, value, expected in [
                ("6", (NOUGHT, frac("2/3")), None), ("6", WHOLE, ("part",)), ("6", None, ("part",)),
                ("6", (frac("2/3"), NOUGHT), ("part",)), ("6", (NOUGHT, frac("4/3")), ("form",)),
                ("6", (frac("-1"), frac("2/3")), ("form",)), ("6", (NOUGHT, (4, 6)), ("form",)),
                ("6", [NOUGHT, frac("2/3")], ("form",)), ("6", (NOUGHT, [2, 3]), ("form",)),
                ("6", ((0, True), frac("2/3")), ("form",)), ("6", ((False, 1), frac("2/3")), ("form",)),
                ("6", (NOUGHT, frac("2/3"), NOUGHT), ("form",)), ("6", (NOUGHT,), ("form",)), ("6", (0, 1), ("form",)),
                ("5", WHOLE, None), ("5", (NOUGHT, frac("2/3")), ("part",)), ("5", ((0, 1), (True, 1)), ("form",)),
                ("5", (NOUGHT, (1, True)), ("form",)), ("6", (), ("form",)), ("6", nested(30), ("form",))]:
            self.assertEqual(repr(judge_part(TEETH, H, 0, frac(x), value)), repr(expected), (x, value))
        self.assertIsNone(judge_part(TEETH, H, 2, (2, 1), None))
        self.assertEqual(judge_part(TEETH, H, 2, (2, 1), WHOLE), ("part",))
        for value in NONE_AT_ALL:
            if value is not None:
                self.assertEqual(judge_part(TEETH, H, 0, (6, 1), value), ("form",))
                self.assertEqual(judge_part(TEETH, H, 2, (2, 1), value), ("form",))
        for _, ridge, h in cases(8, 20):
            for i in range(slopes_of(ridge)):
                for x in line_of(ridge):
                    self.assertIsNone(judge_part(ridge, h, i, x, seen_part(ridge, h, i, x)))


class Covering(unittest.TestCase):
    def test_parts_are_put_together(self):
        for rng, ridge, h in cases(9, 50):
            start, end = [exact(x) for x in line_of(ridge)]
            for i in range(slopes_of(ridge)):
                drones = [told(start + (end - start) * Fraction(rng.randint(0, 20), 20)) for _ in range(rng.randint(0, 4))]
                drones += rng.choice(([], [slope_reach(ridge, h, i, ONE)[1]], [slope_reach(ridge, h, i, NOUGHT)[0]]))
                parts = [seen_part(ridge, h, i, x) for x in drones]
                parts = sorted([exact(a), exact(b)] for a, b in [part for part in parts if part is not None])
                merged = []
                for a, b in parts:
                    if merged and a <= merged[-1][1]:
                        merged[-1][1] = max(b, merged[-1][1])
                    else:
                        merged.append([a, b])
                expected = tuple((told(a), told(b)) for a, b in merged)
                before = list(drones)
                self.assertEqual(covered_parts(ridge, h, i, drones), expected)
                self.assertEqual(covered_parts(ridge, h, i, tuple(reversed(drones))), expected)
                self.assertIs(is_covered(ridge, h, i, drones), expected == (WHOLE,))
                self.assertEqual(drones, before)

    def test_no_drones(self):
        for i in range(3):
            self.assertEqual(covered_parts(TEETH, H, i, []), ())
            self.assertIs(is_covered(TEETH, H, i, []), False)
            self.assertIs(is_covered(TEETH, H, i, ()), False)

    def test_parts_apart_and_put_together(self):
        hills = spots("-6,4 -3,4 -2,0 2,0 3,4 6,4")
        left, right = seen_part(hills, (5, 1), 2, frac("-4")), seen_part(hills, (5, 1), 2, frac("4"))
        self.assertEqual([left, right], [(frac("3/4"), ONE), (NOUGHT, frac("1/4"))])
        self.assertEqual(covered_parts(hills, (5, 1), 2, [frac("-4"), frac("4")]), (right, left))
        self.assertEqual(covered_parts(hills, (5, 1), 2, [frac("4"), frac("-4"), frac("0")]), (WHOLE,))

    def test_parts_that_have_just_an_end_in_common(self):
        hills = spots("-6,4 -3,4 -2,0 2,0 3,4 6,4")
        left, right = [slope_reach(hills, (5, 1), 2, frac("1/2"))[side] for side in (0, 1)]
        parts = [seen_part(hills, (5, 1), 2, left), seen_part(hills, (5, 1), 2, right)]
        self.assertEqual(parts, [(frac("1/2"), ONE), (NOUGHT, frac("1/2"))])
        self.assertEqual(covered_parts(hills, (5, 1), 2, [left, right]), (WHOLE,))
        self.assertIs(is_covered(hills, (5, 1), 2, [right, left]), True)


class Lengths(unittest.TestCase):
    def test_span_floor(self):
        self.assertEqual([span_floor(TEETH, H), span_floor(TEETH, frac("5/2")), span_floor(TEETH, (90, 1))],
                         [(1, 1), (1, 2), (6, 1)])
        self.assertEqual(span_floor(spots("0,0 3,-9 4,0"), (3, 1)), (1, 3))
        self.assertEqual(span_floor(spots("0,0 1,9 4,0"), (12, 1)), (1, 3))

    def test_all_slopes_level(self):
        self.assertEqual([span_floor(spots("1/2,7 2,7 5,7"), h) for h in ((8, 1), (71, 10))], [(9, 2)] * 2)

    def test_no_reach_is_shorter(self):
        for _, ridge, h in cases(10, 40):
            floor = span_floor(ridge, h)
            for i in range(slopes_of(ridge)):
                for t in (NOUGHT, frac("1/5"), frac("2/3"), ONE):
                    for left, right in (reach(ridge, h, (i, t)), slope_reach(ridge, h, i, t)):
                        self.assertGreaterEqual(compared(lessened(right, left), floor), 0)


if __name__ == "__main__":
    unittest.main()
