"""Promises 13.1 to 13.5."""

import unittest
from fractions import Fraction

from helpers import (
    NONE_AT_ALL, dice, drones_by_words, ends_by_words, exact, frac, grounds, nested, numbers, paper_by_words, places,
    some_case, some_drones, some_teeth, spots, told, whole,
)
from ridgewatch.drones import cover, fewest, judge_cover, paper
from ridgewatch.fractions import added
from ridgewatch.ground import sees_all, stretch_of
from ridgewatch.ridges import cut, joined, line_of, mirrored, plain, refined, sheared, shifted, stretched, top_of
from ridgewatch.sight import reach
from ridgewatch.surveys import (
    combs, compared_ridges, crowded, judge_report, least_height, like_others, numbers_of, one_height, ranked, report,
    seen_rows, survey,
)

RIDGE = spots("0,0 1,3 2,0 3,3 4,0")
TWO = spots("0,4 1,0 2,4 6,4 7,0 8,4")
SLOPE = spots("0,0 2,4")
PEAK = spots("0,0 2,4 4,0")
VALLEY = spots("0,4 1,0 4,4")
LEVEL = spots("0,7 2,7 5,7")
FOUR = (4, 1)
FIVE = (5, 1)


def fewest_by_words(ridge, h):
    """The number of drones that 5.2 tells."""
    return len(drones_by_words(ridge, h, whole(ridge)))


def some_cases(seed, many, corners=8):
    """Ridges and heights, many of which ask for several drones."""
    rng = dice(seed)
    for _ in range(many):
        ridge, h = some_case(rng, rng.randint(2, corners))
        if rng.random() < 0.4:
            ridge, h = some_teeth(rng, rng.randint(3, corners)), told(Fraction(rng.randint(39, 44), 2))
        yield rng, ridge, h


def heights_above(rng, ridge, many):
    """So many heights above the ridge, in any sequence."""
    top = exact(top_of(ridge))
    found = []
    for _ in range(many):
        more = rng.choice((Fraction(1, 9), Fraction(1, 2), Fraction(rng.randint(1, 40), rng.randint(1, 4))))
        found.append(told(top + more))
    return found


class Surveys(unittest.TestCase):
    def test_survey(self):
        heights = places("6 4 5 4")
        self.assertEqual(survey(RIDGE, list(heights)), [
            ((6, 1), 1, places("2")), (FOUR, 2, places("4/3 4")), ((5, 1), 2, places("5/3 4")),
            (FOUR, 2, places("4/3 4"))])
        self.assertEqual(numbers_of(RIDGE, list(heights)), [1, 2, 2, 2])
        self.assertEqual([survey(RIDGE, []), numbers_of(RIDGE, [])], [[], []])
        self.assertEqual([survey(RIDGE, heights), numbers_of(RIDGE, ())], [survey(RIDGE, list(heights)), []])

    def test_by_the_words(self):
        for rng, ridge, h in some_cases(1, 25):
            heights = heights_above(rng, ridge, rng.randint(0, 4)) + [h]
            covers = [drones_by_words(ridge, height, whole(ridge)) for height in heights]
            rows = [(height, len(drones), drones) for height, drones in zip(heights, covers)]
            self.assertEqual(survey(ridge, heights), rows)
            self.assertEqual(numbers_of(ridge, heights), [len(drones) for drones in covers])

    def test_higher_no_more(self):
        less = 0
        for rng, ridge, h in some_cases(2, 40):
            higher = added(h, rng.choice(places("1/3 2 9 40")))
            low, high = survey(ridge, [h, higher])
            self.assertLessEqual(high[1], low[1])
            self.assertIsNone(judge_cover(ridge, higher, low[2]))
            less += high[1] < low[1]
            for _ in range(4):
                g = (rng.randrange(len(ridge) - 1), rng.choice(places("0 1/3 1/2 1")))
                (left, right), (further_left, further_right) = reach(ridge, h, g), reach(ridge, higher, g)
                self.assertTrue(exact(further_left) <= exact(left) and exact(right) <= exact(further_right))
        self.assertGreater(less, 1)

    def test_least_height(self):
        for heights, k, expected in [("4 6 5", 1, "6"), ("4 6 5", 2, "4"), ("6 4 5 6", 1, "6"), ("5 4", 2, "4"),
                                     ("9 13/2 6 7", 1, "6"), ("13/2 20/3 19/3", 1, "19/3"),
                                     ("4 5 6", 9, "4")]:
            self.assertEqual(least_height(RIDGE, list(places(heights)), k), frac(expected))
        self.assertIsNone(least_height(RIDGE, list(places("4 5 59/10")), 1))
        self.assertIsNone(least_height(RIDGE, [], 1))
        self.assertIsNone(least_height(RIDGE, (), 3))

    def test_least_height_by_the_words(self):
        kinds = {}
        for rng, ridge, h in some_cases(3, 40):
            heights, k = heights_above(rng, ridge, rng.randint(0, 5))[2:] + [h], rng.choice((1, 1, 2, 3))
            enough = [height for height in heights if fewest_by_words(ridge, height) <= k]
            expected = min(enough, key=exact) if enough else None
            self.assertEqual(least_height(ridge, heights, k), expected)
            kinds[expected is None] = kinds.get(expected is None, 0) + 1
        self.assertGreater(min(kinds.get(kind, 0) for kind in (True, False)), 1, kinds)


class OneHeight(unittest.TestCase):
    def test_one_height(self):
        for ridge, h, x in [(RIDGE, "6", "2"), (SLOPE, "0", "0"), (spots("0,4 2,0"), "0", "2"), (PEAK, "4", "2"),
                            (VALLEY, "0", "1"), (LEVEL, "7", "0"), (LEVEL[1:], "7", "2"),
                            (spots("0,1 2,1 3,5 6,5"), "5", "0"), (spots("0,5 2,5 3,1 6,1"), "5", "2"),
                            (spots("0,0 3,3 4,3 5,0"), "15/4", "15/4"), (spots("0,3 1,0 2,0 3,3"), "0", "1"),
                            (spots("-3,-8 -1,-4"), "-8", "-3"),
                            # Two lines cross lower down, but beyond an end of the line.
                            (spots("0,9 4,5 5,2 6,3/2"), "3", "6"), (spots("-6,3/2 -5,2 -4,5 0,9"), "3", "-6")]:
            self.assertEqual(one_height(ridge), (frac(h), frac(x)))

    def test_combs(self):
        # The outermost lines of a comb, ten for one, meet in the middle.
        for k in range(1, 5):
            ridge, _ = combs(k)
            h, x = one_height(ridge)
            self.assertEqual(x, told(Fraction(3 * k - 1, 2)))
            self.assertEqual(h, told(10 * (exact(x) - 1)) if k > 1 else (0, 1))

    def test_of_several_places_the_least(self):
        # Level ground lies above all other lines along a stretch: its first place is told, wherever that begins.
        for ridge, x in [("0,5 4,5 6,1 9,5", "4"), ("0,9 1,5 5,5 6,9", "1"), ("0,5 1,5 3,4 4,3 5,4", "2"),
                         ("0,5 1,5 2,5", "0"), ("1,5 3,5 4,4", "3")]:
            self.assertEqual(one_height(spots(ridge)), ((5, 1), frac(x)), ridge)

    def test_by_the_words(self):
        for rng, ridge, _ in some_cases(4, 80):
            h, x = one_height(ridge)
            start, end = map(exact, line_of(ridge))
            self.assertEqual(envelope(ridge, exact(x)), exact(h))
            self.assertTrue(start <= exact(x) <= end)
            # Nowhere is it less, and to the left everywhere more.
            for k in range(13):
                place = start + (end - start) * Fraction(k, 12)
                self.assertGreaterEqual(envelope(ridge, place), exact(h))
                if place < exact(x):
                    self.assertGreater(envelope(ridge, place), exact(h))
            for step in (Fraction(1, 10 ** 6), Fraction(1, 100)):
                if exact(x) - step >= start:
                    self.assertGreater(envelope(ridge, exact(x) - step), exact(h))
                if exact(x) + step <= end:
                    self.assertGreaterEqual(envelope(ridge, exact(x) + step), exact(h))

    def test_one_drone_is_enough_from_that_height_on(self):
        low = 0
        for _, ridge, _ in some_cases(5, 60):
            h, x = one_height(ridge)
            top = exact(top_of(ridge))
            for height in {exact(h), exact(h) + Fraction(1, 1000), exact(h) - Fraction(1, 1000),
                           top + Fraction(1, 1000), exact(h) + 7, (exact(h) + top) / 2}:
                if height > top:
                    self.assertIs(fewest(ridge, told(height)) == 1, height >= exact(h))
                    if height >= exact(h):
                        self.assertIs(sees_all(ridge, told(height), (x,)), True)
                    low += height < exact(h)
        self.assertGreater(low, 10)


def envelope(ridge, x):
    """The greatest height of the endless lines along the slopes at x."""
    points = numbers(ridge)
    return max(q + (s - q) * (x - p) / (r - p) for (p, q), (r, s) in zip(points, points[1:]))


class SideBySide(unittest.TestCase):
    def test_joined(self):
        several = 0
        for rng, one, h in some_cases(6, 30, 6):
            other, _ = some_case(rng, rng.randint(2, 6))
            both = joined(one, other)
            height = told(max(exact(top_of(both)), exact(h)) + 1)
            # The other one as it was moved: its first corner on the last one of one.
            moved = both[len(one) - 1:]
            numbers_told = [fewest(ridge, height) for ridge in (one, moved, both)]
            self.assertTrue(max(numbers_told[:2]) <= numbers_told[2] <= sum(numbers_told[:2]))
            several += numbers_told[2] > 1
        self.assertGreater(several, 5)

    def test_cut(self):
        less = 0
        for rng, ridge, h in some_cases(7, 30):
            a, b = some_drones(rng, ridge, 2)
            numbers_told = [fewest(cut(ridge, a, b), h), fewest(ridge, h)]
            self.assertLessEqual(numbers_told[0], numbers_told[1])
            less += numbers_told[0] < numbers_told[1]
        self.assertGreater(less, 2)

    def test_moved(self):
        for rng, ridge, h in some_cases(8, 25):
            dx, dy = rng.choice(places("3 -1/2 0")), rng.choice(places("7/3 -4 0"))
            a, b = rng.choice(places("3 1/7 1")), rng.choice(places("5/2 1/3 1"))
            spots_more = tuple((rng.randrange(len(ridge) - 1), rng.choice(places("1/2 1/3 0"))) for _ in range(2))
            many = fewest(ridge, h)
            for other, height in [(mirrored(ridge), h), (shifted(ridge, dx, dy), added(h, dy)),
                                  (stretched(ridge, a, b), told(exact(h) * exact(b))),
                                  (refined(ridge, spots_more), h), (plain(ridge), h),
                                  (plain(refined(ridge, spots_more)), h)]:
                self.assertEqual(fewest(other, height), many)

    def test_like_others(self):
        self.assertEqual(like_others(RIDGE, FOUR), [
            ("mirrored", spots("-4,0 -3,3 -2,0 -1,3 0,0"), FOUR), ("shifted", spots("1,2 2,5 3,2 4,5 5,2"), (6, 1)),
            ("stretched", spots("0,0 1/2,9 1,0 3/2,9 2,0"), (12, 1)), ("plain", RIDGE, FOUR)])
        straight = spots("0,0 1,1 2,2 3,0")
        self.assertEqual(like_others(straight, FIVE)[3], ("plain", spots("0,0 2,2 3,0"), FIVE))
        self.assertIsInstance(like_others(straight, FIVE), list)

    def test_like_others_have_as_many(self):
        for _, ridge, h in some_cases(9, 20):
            many = fewest(ridge, h)
            rows = like_others(ridge, h)
            self.assertEqual([word for word, _, _ in rows], ["mirrored", "shifted", "stretched", "plain"])
            self.assertEqual([numbers_of(other, [height]) for _, other, height in rows], [[many]] * 4)
            self.assertEqual([row[1:] for row in rows], [
                (mirrored(ridge), h), (shifted(ridge, (1, 1), (2, 1)), added(h, (2, 1))),
                (stretched(ridge, (1, 2), (3, 1)), told(3 * exact(h))), (plain(ridge), h)])


class Reports(unittest.TestCase):
    def test_report(self):
        self.assertEqual(report(RIDGE, FOUR), (2, places("4/3 4"), grounds("0:1/2 3:1/2"),
                                               ((0, places("2/3 4/3")), (1, places("8/3 4")))))
        self.assertEqual(report(LEVEL, (8, 1)), (1, places("5"), grounds("0:1/2"), ((0, places("0 5")),)))
        self.assertEqual(report(PEAK, FIVE)[:2], (1, cover(PEAK, FIVE)))

    def test_by_the_words(self):
        for _, ridge, h in some_cases(10, 30):
            drones = drones_by_words(ridge, h, whole(ridge))
            tight = tuple((k, stretch_of(ridge, h, drones, k)) for k in range(len(drones)))
            found = report(ridge, h)
            self.assertEqual(found, (len(drones), drones, paper_by_words(ridge, h, whole(ridge)), tight))
            self.assertIsNone(judge_report(ridge, h, found))

    def test_other_covers_and_papers(self):
        number, drones, watched, tight = report(RIDGE, FOUR)
        others = places("1 3")
        other_tight = tuple((k, stretch_of(RIDGE, FOUR, others, k)) for k in range(2))
        self.assertEqual(other_tight, ((0, places("0 4/3")), (1, places("8/3 4"))))
        self.assertIsNone(judge_report(RIDGE, FOUR, (2, others, watched, other_tight)))
        self.assertIsNone(judge_report(RIDGE, FOUR, (2, others, grounds("0:1/3 3:2/3"), other_tight)))
        # Tight is told for the cover in the value, not for that of the report.
        self.assertEqual(judge_report(RIDGE, FOUR, (2, others, watched, tight)), ("tight", 0))
        self.assertEqual(judge_report(RIDGE, FOUR, (2, drones, watched, other_tight)), ("tight", 0))

    def test_faults(self):
        number, drones, watched, tight = report(RIDGE, FOUR)
        for value, expected in [
                ((2, places("4/3"), watched, tight), ("cover", ("dark", (3, (0, 1), (1, 1))))),
                ((2, list(drones), watched, tight), ("cover", ("form",))),
                ((2, (), (), ()), ("cover", ("dark", (0, (0, 1), (1, 1))))),
                ((2, drones[::-1], watched, tight), ("cover", ("form",))),
                ((2, drones, grounds("0:1/2 1:1/2"), tight), ("paper", ("meets", 0))),
                ((2, drones, None, tight), ("paper", ("form",))),
                ((2, drones, list(watched), tight), ("paper", ("form",))),
                ((3, drones, watched, tight), ("number",)), ((2, drones, watched[:1], tight), ("number",)),
                ((2, drones, (), tight), ("number",)), ((1, drones, watched[:1], tight), ("number",)),
                ((2, places("4/3 2 4"), watched, tight), ("number",)),
                ((3, places("4/3 2 4"), watched, tight), ("number",)), ((-2, drones, watched, tight), ("number",)),
                ((10 ** 59, drones, watched, ()), ("number",)), ((3, None, None, ()), ("cover", ("form",))),
                ((3, drones, grounds("0:1/2 1:1/2"), ()), ("paper", ("meets", 0)))]:
            self.assertEqual(judge_report(RIDGE, FOUR, value), expected, value)

    def test_tight(self):
        number, drones, watched, tight = report(RIDGE, FOUR)
        one, other = tight
        for value, k in [((), 0), ((one,), 1), ((other,), 0), ((other, one), 0), ((one, other, other), 2),
                         ((one, other, None), 2), ((one, one), 1), ((one, None), 1), ((one, ()), 1), ((one, (1,)), 1),
                         (((), other), 0),
                         ((None, other), 0), ((None, None, None), 0), (((False, one[1]), other), 0),
                         ((one, (True, other[1])), 1), ((one, (1, list(other[1]))), 1), ((one, list(other)), 1),
                         ((one, (1, (True, True))), 1), ((one, other + ()), None), ((one, (1, other[1] + other[1])), 1),
                         ((one, (1, (other[1][0],))), 1), ((one, (1, other[1], 1)), 1),
                         ((one, (1, other[1][::-1])), 1), ((one, (1, ((16, 6), other[1][1]))), 1),
                         ((one, (1, (other[1][0], (4, True)))), 1), ((one, (1, None)), 1), ((one, (-1, other[1])), 1),
                         ((one, ("1", other[1])), 1), ((one, other, one, other), 2), ((one, nested(30)), 1),
                         (((0, ((2, 3), (4, 3))), (1, ((8, 3), (4, 1)))), None)]:
            expected = None if k is None else ("tight", k)
            self.assertEqual(judge_report(RIDGE, FOUR, (number, drones, watched, value)), expected, value)

    def test_form(self):
        number, drones, watched, tight = report(RIDGE, FOUR)
        for value in NONE_AT_ALL + [
                nested(30), [number, drones, watched, tight], (number, drones, watched),
                (number, drones, watched, tight, ()), (True, drones, watched, tight), (None, drones, watched, tight),
                ("2", drones, watched, tight), ((2, 1), drones, watched, tight), (number, drones, watched, list(tight)),
                (number, drones, watched, None), (number, drones, watched, {}),
                (number, drones, watched, "ab"), (drones, number, watched, tight), (1, 2, 3, 4), (False, (), (), ())]:
            self.assertEqual(judge_report(RIDGE, FOUR, value), ("form",), value)

    def test_one_more_of_each(self):
        # A cover with a drone more is no cover of the fewest: there is no paper with as many spots.
        more = places("4/3 2 4")
        tight = tuple((k, stretch_of(RIDGE, FOUR, more, k)) for k in range(3))
        self.assertEqual(judge_report(RIDGE, FOUR, (3, more, report(RIDGE, FOUR)[2], tight)), ("number",))


class Compared(unittest.TestCase):
    def test_compared_ridges(self):
        comb, height = combs(2)
        self.assertEqual([compared_ridges(RIDGE, comb, height), compared_ridges(comb, RIDGE, height),
                          compared_ridges(RIDGE, RIDGE, FOUR), compared_ridges(comb, combs(3)[0], height)],
                          [-1, 1, 0, -1])
        self.assertEqual(compared_ridges(combs(8)[0], comb, height), 1)

    def test_ranked(self):
        height = (11, 1)
        ridges = [combs(2)[0], RIDGE, combs(3)[0], LEVEL, combs(2)[0]]
        self.assertEqual(ranked(ridges, height), ((1, 1), (1, 3), (2, 0), (2, 4), (3, 2)))
        self.assertEqual([ranked([], height), ranked([RIDGE], FOUR), ranked(tuple(ridges), height)],
                         [(), ((2, 0),), ranked(ridges, height)])

    def test_crowded(self):
        self.assertEqual([crowded(RIDGE, FOUR), crowded(TWO, FIVE), crowded(LEVEL, (8, 1)), crowded(*combs(3))],
                         [(0, 3), (0, 3), (0,), (0, 3, 6)])
        for _, ridge, h in some_cases(11, 30):
            self.assertEqual(crowded(ridge, h), tuple(sorted({i for i, _ in paper(ridge, h)})))

    def test_seen_rows(self):
        heights = list(places("4 6"))
        self.assertEqual([seen_rows(RIDGE, heights, places("4/3")), seen_rows(RIDGE, heights, ()),
                          seen_rows(RIDGE, [], places("2"))], [[4, 4], [0, 0], []])
        self.assertEqual([seen_rows(RIDGE, heights, places("4/3 4")), seen_rows(RIDGE, heights, places("0")),
                          seen_rows(RIDGE, heights[::-1], places("2"))], [[5, 5], [3, 4], [5, 3]])

    def test_seen_rows_by_the_words(self):
        for rng, ridge, h in some_cases(12, 40):
            heights = heights_above(rng, ridge, 3) + [h]
            drones = some_drones(rng, ridge, rng.randint(0, 3))
            rows = []
            for height in heights:
                ends = [corner_reach(ridge, height, k) for k in range(len(ridge))]
                rows.append(sum(any(left <= exact(x) <= right for x in drones) for left, right in ends))
            self.assertEqual(seen_rows(ridge, heights, drones), rows)

    def test_combs(self):
        self.assertEqual(combs(1), (spots("0,10 1,0 2,10"), (11, 1)))
        self.assertEqual(combs(2), (spots("0,10 1,0 2,10 3,10 4,0 5,10"), (11, 1)))
        self.assertEqual(combs(3), (spots("0,10 1,0 2,10 3,10 4,0 5,10 6,10 7,0 8,10"), (11, 1)))
        for k in range(1, 9):
            ridge, height = combs(k)
            self.assertEqual([fewest(ridge, height), len(ridge), height], [k, 3 * k, (11, 1)])
            ends = [corner_reach(ridge, height, 3 * j + 1) for j in range(k)]
            self.assertEqual([right < left for (_, right), (left, _) in zip(ends, ends[1:])], [True] * (k - 1))


def corner_reach(ridge, h, k):
    """The reach of corner k: no line of a slope of its own bars it."""
    points, height = numbers(ridge), exact(h)
    x, y = points[k]
    left = max([points[0][0]] + [x - (height - y) * (x - u) / (v - y) for u, v in points[:k] if v > y])
    right = min([points[-1][0]] + [x + (height - y) * (u - x) / (v - y) for u, v in points[k + 1:] if v > y])
    return left, right


if __name__ == "__main__":
    unittest.main()
