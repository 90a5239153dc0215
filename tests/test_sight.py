"""Promises 3.1 to 3.5."""

import unittest
from fractions import Fraction

from helpers import NONE_AT_ALL, dice, exact, frac, nested, numbers, some_ridge, spots, told
from ridgewatch.fractions import compared, greatest_of, least_of, multiplied
from ridgewatch.ridges import (
    ground_at, line_of, mirrored, mirrored_ground, refined, shifted, slopes_of, spot_of, stretched, top_of,
)
from ridgewatch.sight import (
    are_apart, bar_corners, barring, common_reach, first_apart, judge_reach, left_to_right, reach, seen_by, sees,
)

TEETH = spots("0,2 2,0 4,2 6,0")
H = frac("3")
DEEP = spots("0,4 1,0 2,4 3,0 4,4")
STAIRS = spots("0,3 1,2 2,1 3,0 4,0")
"""Three corners in one line of sight from corner 3."""


def barring_by_words(ridge, h, x, g):
    """The corners that 3.2 tells of."""
    (p, q), (r, s) = [exact(x), exact(h)], [exact(part) for part in spot_of(ridge, g)]
    found = []
    for k, (u, v) in enumerate(numbers(ridge)):
        if min(p, r) < u < max(p, r) and v > q + (s - q) * (u - p) / (r - p):
            found.append(k)
    return tuple(found)


def cases(seed, many):
    """Ridges, heights and ground spots."""
    rng = dice(seed)
    for _ in range(many):
        ridge = some_ridge(rng, rng.randint(2, 9), high=rng.choice((2, 6)), most=rng.choice((1, 1, 3)))
        h = told(exact(top_of(ridge)) + Fraction(rng.randint(1, 8), rng.randint(1, 4)))
        grounds = [(i, (0, 1)) for i in range(slopes_of(ridge))]
        grounds += [(i, (1, 1)) for i in range(slopes_of(ridge))]
        grounds += [(rng.randrange(slopes_of(ridge)), told(Fraction(rng.randint(0, 6), 6))) for _ in range(4)]
        yield rng, ridge, h, grounds


def some_drones(ridge):
    """Places all along the line, with each corner's x."""
    start, end = [exact(x) for x in line_of(ridge)]
    return [told(start + (end - start) * Fraction(k, 12)) for k in range(13)] + [x for x, _ in ridge]


class Seeing(unittest.TestCase):
    def test_barring(self):
        side = (2, (1, 2))
        self.assertEqual([barring(TEETH, H, frac(x), side) for x in ("0", "2", "29/10", "3", "31/10", "4", "5", "6")],
                         [(2,), (2,), (2,), (), (), (), (), ()])
        self.assertEqual(barring(DEEP, (5, 1), (4, 1), (0, (1, 1))), (2,))
        self.assertEqual(barring(spots("0,0 1,4 2,2 3,5 4,0"), (6, 1), (4, 1), (0, (0, 1))), (1, 3))

    def test_a_corner_on_the_line_of_sight_lets_it_by(self):
        self.assertEqual(barring(STAIRS, (4, 1), frac("-1"), (2, (1, 1))), ())
        self.assertIs(sees(spots("0,0 1,1 2,0"), (2, 1), frac("2"), (0, (0, 1))), True)
        self.assertIs(sees(spots("0,0 1,1 2,0"), frac("19/10"), frac("2"), (0, (0, 1))), False)

    def test_the_spots_own_corner_and_the_drones_corner_do_not_bar(self):
        for k in range(5):
            g = ground_at(DEEP, DEEP[k][0])
            self.assertEqual(barring(DEEP, (5, 1), DEEP[k][0], g), ())
        self.assertEqual(barring(DEEP, frac("401/100"), frac("2"), (0, (1, 1))), ())
        self.assertIs(sees(DEEP, frac("401/100"), frac("2"), (2, (0, 1))), True)
        self.assertIs(sees(DEEP, frac("401/100"), frac("2"), (1, (1, 1))), True)

    def test_by_the_words(self):
        for _, ridge, h, grounds in cases(1, 40):
            drones = some_drones(ridge)
            for g in grounds:
                right = []
                for x in drones:
                    expected = barring_by_words(ridge, h, x, g)
                    self.assertEqual(barring(ridge, h, x, g), expected)
                    self.assertIs(sees(ridge, h, x, g), expected == ())
                    right += [x] if expected == () else []
                self.assertEqual(seen_by(ridge, h, drones, g), tuple(right))

    def test_seen_by_keeps_order_and_equal_ones(self):
        side = (2, (1, 2))
        drones = [(6, 1), (0, 1), (3, 1), (6, 1)]
        self.assertEqual(seen_by(TEETH, H, drones, side), ((6, 1), (3, 1), (6, 1)))
        self.assertEqual(seen_by(TEETH, H, tuple(drones), side), ((6, 1), (3, 1), (6, 1)))
        self.assertEqual([seen_by(TEETH, H, [], side), seen_by(TEETH, H, [(0, 1)], side)], [(), ()])
        self.assertEqual(drones, [(6, 1), (0, 1), (3, 1), (6, 1)])


class Reaching(unittest.TestCase):
    def test_just_the_drones_of_the_reach_see(self):
        for _, ridge, h, grounds in cases(2, 40):
            start, end = [exact(x) for x in line_of(ridge)]
            for g in grounds:
                left, right = [exact(x) for x in reach(ridge, h, g)]
                tiny = Fraction(1, 10 ** 9)
                for x in [exact(x) for x in some_drones(ridge)] + [left, right, left - tiny, right + tiny]:
                    if start <= x <= end:
                        self.assertIs(sees(ridge, h, told(x), g), left <= x <= right)
                self.assertTrue(start <= left <= exact(spot_of(ridge, g)[0]) <= right <= end)

    def test_ends_at_the_first_and_the_last_corner(self):
        self.assertEqual(reach(TEETH, H, (0, (1, 1))), (frac("0"), frac("5")))
        self.assertEqual(reach(TEETH, H, (0, (0, 1))), (frac("0"), frac("6")))
        self.assertEqual(reach(TEETH, H, (2, (1, 1))), (frac("3"), frac("6")))
        self.assertEqual(reach(TEETH[:2], H, (0, (1, 2))), (frac("0"), frac("2")))

    def test_bar_corners(self):
        self.assertEqual([bar_corners(TEETH, H, g) for g in [(0, (1, 1)), (2, (1, 2)), (2, (0, 1)), (1, (1, 2))]],
                         [(None, 2), (2, None), (None, None), (None, 2)])
        self.assertEqual(bar_corners(DEEP, (5, 1), (1, (1, 2))), (None, 2))

    def test_a_place_just_at_the_end_of_the_line_counts(self):
        ridge = spots("0,0 1,2 2,1 3,2 4,0")
        self.assertEqual([reach(ridge, H, (1, (1, 1))), bar_corners(ridge, H, (1, (1, 1)))], [((0, 1), (4, 1)), (1, 3)])
        self.assertEqual(bar_corners(ridge, frac("301/100"), (1, (1, 1))), (None, None))
        self.assertEqual(bar_corners(ridge, frac("299/100"), (1, (1, 1))), (1, 3))

    def test_of_several_corners_in_one_sight_the_nearest(self):
        low = shifted(STAIRS, (5, 1), (0, 1))
        ridge = spots("0,0") + low
        self.assertEqual(bar_corners(ridge, (4, 1), (3, (1, 1))), (3, None))
        self.assertEqual(reach(ridge, (4, 1), (3, (1, 1)))[0], (4, 1))
        other = mirrored(ridge)
        self.assertEqual(bar_corners(other, (4, 1), (0, (1, 1))), (None, 2))

    def test_by_the_words(self):
        for _, ridge, h, grounds in cases(3, 60):
            for g in grounds:
                x, y = [exact(part) for part in spot_of(ridge, g)]
                told_ends, told_corners = [], []
                for sign, end in ((-1, line_of(ridge)[0]), (1, line_of(ridge)[1])):
                    lines = [((v - y) / abs(u - x), -abs(u - x), k) for k, (u, v) in enumerate(numbers(ridge))
                             if (u - x) * sign > 0 and v > y]
                    steep, _, k = max(lines, default=(None, None, None))
                    place = None if k is None else x + sign * (exact(h) - y) / steep
                    inside = k is not None and (place - exact(end)) * sign <= 0
                    told_ends.append(told(place) if inside else end)
                    told_corners.append(k if inside else None)
                self.assertEqual(reach(ridge, h, g), tuple(told_ends))
                self.assertEqual(bar_corners(ridge, h, g), tuple(told_corners))

    def test_judge_reach(self):
        g = (0, (1, 1))
        for value, expected in [
                (((0, 1), (5, 1)), None), (((0, 1), (6, 1)), ("right",)), (((1, 1), (6, 1)), ("left",)),
                (((1, 1), (5, 1)), ("left",)), (((5, 1), (0, 1)), ("left",)), (((0, 1), (-5, 1)), ("right",)),
                (((0, 2), (5, 1)), ("form",)), (((0, 1), (10, 2)), ("form",)), ([(0, 1), (5, 1)], ("form",)),
                (((0, 1), [5, 1]), ("form",)), (((False, 1), (5, 1)), ("form",)), (((0, True), (5, 1)), ("form",)),
                (((0, 1), (5, True)), ("form",)), (((0, 1), (5, 1), (5, 1)), ("form",)), (((0, 1),), ("form",)),
                ((0, 5), ("form",)), (None, ("form",)), (((1, 1), None), ("form",)), (nested(30), ("form",))]:
            self.assertEqual(repr(judge_reach(TEETH, H, g, value)), repr(expected), value)
        for value in NONE_AT_ALL:
            self.assertEqual(judge_reach(TEETH, H, g, value), ("form",))
        for _, ridge, h, grounds in cases(4, 10):
            for g in grounds:
                self.assertIsNone(judge_reach(ridge, h, g, reach(ridge, h, g)))


class Together(unittest.TestCase):
    def test_lists(self):
        for rng, ridge, h, grounds in cases(5, 60):
            rng.shuffle(grounds)
            some = grounds[:rng.randint(1, 8)]
            ends = [reach(ridge, h, g) for g in some]
            common = (greatest_of(tuple(a for a, _ in ends)), least_of(tuple(b for _, b in ends)))
            self.assertEqual(common_reach(ridge, h, some), common)
            apart = [(j, k) for j in range(len(some)) for k in range(j + 1, len(some))
                     if compared(*common_reach(ridge, h, [some[j], some[k]])) > 0]
            self.assertEqual(first_apart(ridge, h, some), min(apart, default=None))
            self.assertIs(are_apart(ridge, h, some), len(apart) == len(some) * (len(some) - 1) // 2)
            self.assertEqual(compared(*common) <= 0, not apart)
            order = sorted(range(len(some)), key=lambda k: (exact(ends[k][1]), exact(ends[k][0])))
            self.assertEqual(left_to_right(ridge, h, some), [some[k] for k in order])
            self.assertEqual(left_to_right(ridge, h, tuple(some)), [some[k] for k in order])
            seers = [x for x in some_drones(ridge) if all(sees(ridge, h, x, g) for g in some)]
            for x in some_drones(ridge):
                inside = compared(common[0], x) <= 0 and compared(x, common[1]) <= 0
                self.assertEqual(x in seers, inside)

    def test_apart(self):
        low, far, mid = (0, (1, 1)), (2, (1, 1)), (1, (1, 1))
        wide = spots("0,4 1,0 2,4 6,4 7,0 8,4")
        h = (5, 1)
        pits = [(0, (1, 1)), (3, (1, 1))]
        self.assertEqual([first_apart(wide, h, pits), are_apart(wide, h, pits)], [(0, 1), True])
        self.assertEqual([first_apart(wide, h, [(2, (1, 2))] + pits[::-1]), are_apart(wide, h, [(2, (1, 2))] + pits)],
                         [(1, 2), False])
        self.assertEqual([first_apart(DEEP, h, [low, mid, far]), are_apart(DEEP, h, [low, far])], [None, False])

    def test_ends_that_meet_are_not_apart(self):
        ridge = spots("0,4 1,0 2,4 3,0 4,4")
        h = (6, 1)
        left, right = reach(ridge, h, (0, (1, 1))), reach(ridge, h, (2, (1, 1)))
        self.assertEqual([left, right], [((0, 1), (5, 2)), ((3, 2), (4, 1))])
        for g, other in [((0, (1, 1)), (2, (1, 1))), ((2, (1, 1)), (0, (1, 1)))]:
            self.assertIs(are_apart(ridge, h, [g, other]), False)
        wide = spots("0,4 1,0 2,4 5/2,4 7/2,0 9/2,4")
        for pits in ([(0, (1, 1)), (3, (1, 1))], [(3, (1, 1)), (0, (1, 1))]):
            self.assertEqual(common_reach(wide, (5, 1), pits), ((9, 4), (9, 4)))
            self.assertEqual([first_apart(wide, (5, 1), pits), are_apart(wide, (5, 1), pits)], [None, False])

    def test_one_spot_told_twice_is_two(self):
        g = (0, (1, 1))
        self.assertIs(are_apart(TEETH, H, [g, g]), False)
        self.assertIs(are_apart(TEETH, H, [(0, (1, 1)), (1, (0, 1))]), False)
        self.assertIsNone(first_apart(TEETH, H, [g, g]))
        self.assertEqual(left_to_right(TEETH, H, [(1, (0, 1)), g, (1, (0, 1))]), [(1, (0, 1)), g, (1, (0, 1))])

    def test_of_none_and_of_one(self):
        self.assertEqual([left_to_right(TEETH, H, []), first_apart(TEETH, H, []), are_apart(TEETH, H, [])],
                         [[], None, True])
        g = (2, (1, 2))
        self.assertEqual([left_to_right(TEETH, H, [g]), first_apart(TEETH, H, [g]), are_apart(TEETH, H, [g])],
                         [[g], None, True])
        self.assertEqual(common_reach(TEETH, H, [g]), reach(TEETH, H, g))

    def test_what_is_returned_is_the_callers_own(self):
        some = [(2, (1, 2)), (0, (1, 1))]
        found = left_to_right(TEETH, H, some)
        found.append(None)
        self.assertEqual(left_to_right(TEETH, H, some), [(0, (1, 1)), (2, (1, 2))])
        self.assertEqual(some, [(2, (1, 2)), (0, (1, 1))])


class ForAll(unittest.TestCase):
    def test_reaches_go_along(self):
        a, b = frac("3/2"), frac("2/5")
        for _, ridge, h, grounds in cases(6, 30):
            for g in grounds:
                left, right = reach(ridge, h, g)
                higher = told(exact(h) + Fraction(3, 4))
                self.assertEqual(reach(shifted(ridge, frac("-7/3"), frac("5")), told(exact(h) + 5), g),
                                 (told(exact(left) - Fraction(7, 3)), told(exact(right) - Fraction(7, 3))))
                self.assertEqual(reach(stretched(ridge, a, b), multiplied(b, h), g),
                                 (multiplied(a, left), multiplied(a, right)))
                self.assertEqual(reach(mirrored(ridge), h, mirrored_ground(ridge, g)),
                                 ((-right[0], right[1]), (-left[0], left[1])))
                more = reach(ridge, higher, g)
                self.assertTrue(compared(more[0], left) <= 0 <= compared(more[1], right))

    def test_a_corner_more_upon_a_slope(self):
        for rng, ridge, h, grounds in cases(7, 30):
            extra = (rng.randrange(slopes_of(ridge)), told(Fraction(rng.randint(1, 4), 5)))
            more = refined(ridge, (extra,))
            self.assertEqual(len(more), len(ridge) + 1)
            for g in grounds:
                self.assertEqual(reach(more, h, ground_at(more, spot_of(ridge, g)[0])), reach(ridge, h, g))


if __name__ == "__main__":
    unittest.main()
