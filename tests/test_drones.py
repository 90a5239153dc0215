"""Promises 5.1 to 5.7."""

import unittest
from fractions import Fraction

from helpers import (
    NONE_AT_ALL, dark_by_words, dice, drones_by_words, ends_by_words, exact, frac, grounds, nested, paper_by_words,
    parts, places, some_case, some_drones, some_parts, spots, told, waiting_by_words, whole,
)
from ridgewatch.drones import (
    cover, cover_for, fewest, fewest_for, judge_cover, judge_cover_for, judge_paper, judge_paper_for, most_drones,
    next_drone, paper, paper_for, steepest, sure_step, whole_ground,
)
from ridgewatch.fractions import compared, lessened
from ridgewatch.ridges import line_of, spot_of
from ridgewatch.sight import reach
from ridgewatch.slopes import slope_reach

HILL = spots("0,0 2,2 4,0")
TWO = spots("0,4 1,0 2,4 6,4 7,0 8,4")
VALLEY = spots("0,4 1,0 3,0 4,4")
VALLEYS = spots("0,9 1,0 2,9 3,9 4,0 5,9 6,9 7,0 8,9 9,9 10,0 11,9")
LEVEL = spots("0,7 2,7 5,7")
FIVE = (5, 1)


def part(text):
    """A part of the ground like 0:1/4:1/2."""
    return parts(text)[0]


def cases(seed, many, corners=8):
    """Ridges, heights and parts."""
    rng = dice(seed)
    for _ in range(many):
        ridge, h = some_case(rng, rng.randint(2, corners))
        yield rng, ridge, h, some_parts(rng, ridge, rng.randint(0, 6))


class WholeGround(unittest.TestCase):
    def test_whole_ground(self):
        self.assertEqual(whole_ground(HILL), parts("0:0:1 1:0:1"))
        self.assertEqual(whole_ground(LEVEL[:2]), parts("0:0:1"))
        self.assertEqual(whole_ground(TWO), whole(TWO))


class NextDrone(unittest.TestCase):
    def test_from_the_first_to_the_last(self):
        ground = whole_ground(TWO)
        self.assertEqual([next_drone(TWO, FIVE, ground, x) for x in (None, frac("9/4"), (8, 1))],
                         [frac("9/4"), (8, 1), None])
        self.assertEqual([next_drone(HILL, (3, 1), whole_ground(HILL), x) for x in (None, (0, 1), (1, 1), (3, 1))],
                         [(3, 1), (4, 1), None, None])

    def test_nothing_left_to_see(self):
        for x in (None, (0, 1), (8, 1)):
            self.assertIsNone(next_drone(TWO, FIVE, (), x))
        self.assertIsNone(next_drone(TWO, FIVE, whole_ground(TWO), frac("6")))
        self.assertEqual(next_drone(TWO, FIVE, whole_ground(TWO), frac("11/2")), (8, 1))
        # Just the share 0 of slope 4 lies at the edge of what the drone sees: that is no spot of the part.
        self.assertIsNone(next_drone(TWO, FIVE, parts("4:7/8:1"), frac("9/4")))
        self.assertEqual(next_drone(TWO, FIVE, parts("4:3/4:1"), frac("9/4")), (8, 1))

    def test_spots_not_seen_yet_end_at_c(self):
        pit = spots("0,4 1,4 2,0 6,0 7,4")
        for x, a, b in (("5/4", "0", "1"), ("5/4", "1/4", "1"), ("1", "0", "1/3"), ("5/2", "1/2", "2/3")):
            row = waiting_by_words(pit, FIVE, parts(f"2:{a}:{b}"), frac(x))
            self.assertEqual(next_drone(pit, FIVE, parts(f"2:{a}:{b}"), frac(x)), told(row[0][3]) if row else None)
        self.assertEqual(next_drone(pit, FIVE, parts("2:0:1"), (0, 1)), frac("7"))
        self.assertEqual(slope_reach(pit, FIVE, 2, frac("1/2")), (frac("1/4"), frac("7")))

    def test_parts_in_any_order(self):
        several = 0
        for rng, ridge, h, some in cases(1, 120):
            some = list(some)
            rng.shuffle(some)
            start, end = [exact(x) for x in line_of(ridge)]
            for x in (None, told(start), told(end), told(start + (end - start) * Fraction(rng.randint(1, 9), 10))):
                ends = [row[3] for row in waiting_by_words(ridge, h, some, x)]
                self.assertEqual(next_drone(ridge, h, tuple(some), x), told(min(ends)) if ends else None)
                several += len(set(ends)) > 1
        self.assertGreater(several, 10)


class Cover(unittest.TestCase):
    def test_level_slopes_alone(self):
        for h in (frac("701/100"), (8, 1), (900, 1)):
            self.assertEqual([cover(LEVEL, h), fewest(LEVEL, h), paper(LEVEL, h)], [((5, 1),), 1, ((0, (1, 2)),)])

    def test_one_peak(self):
        for h, drones, spots_told in (("3", "3", "0:1/2"), ("2001/1000", "2001/1000", "0:1/2"), ("4", "4", "0:1/2"),
                                      ("5", "4", "0:1/2")):
            self.assertEqual([cover(HILL, frac(h)), paper(HILL, frac(h))], [places(drones), grounds(spots_told)])
        steep = spots("0,0 1,9 2,0")
        self.assertEqual([cover(steep, (10, 1)), paper(steep, (10, 1))], [places("10/9"), grounds("0:1/2")])

    def test_two_peaks(self):
        peaks = spots("0,0 1,9 2,0 4,0 5,9 6,0")
        self.assertEqual([cover(peaks, (10, 1)), paper(peaks, (10, 1))], [places("10/9 6"), grounds("0:1/2 4:1/2")])
        self.assertEqual(fewest(peaks, (50, 1)), 1)

    def test_one_valley(self):
        self.assertEqual([cover(VALLEY, FIVE), paper(VALLEY, FIVE)], [places("4"), grounds("0:1/2")])
        self.assertEqual(fewest(spots("0,9 1,0 2,9"), (10, 1)), 1)

    def test_several_valleys(self):
        self.assertEqual([fewest(VALLEYS, frac(h)) for h in ("901/100", "10", "12", "18", "99")], [4, 4, 4, 2, 1])
        self.assertEqual(cover(VALLEYS, (10, 1)), places("19/9 46/9 73/9 11"))
        self.assertEqual(paper(VALLEYS, (10, 1)), grounds("0:1/2 3:1/2 6:1/2 9:1/2"))

    def test_by_the_words(self):
        many = {}
        for _, ridge, h, some in cases(2, 150, 12):
            for ground, drones in ((whole(ridge), cover(ridge, h)), (some, cover_for(ridge, h, some))):
                self.assertEqual(drones, drones_by_words(ridge, h, ground))
                many[len(drones)] = many.get(len(drones), 0) + 1
            self.assertEqual([fewest(ridge, h), fewest_for(ridge, h, some)],
                             [len(cover(ridge, h)), len(cover_for(ridge, h, some))])
            self.assertEqual(cover_for(ridge, h, whole(ridge)), cover(ridge, h))
        self.assertTrue(all(many.get(k, 0) > 2 for k in (0, 1, 2, 3)), many)

    def test_for_parts(self):
        self.assertEqual([cover_for(TWO, FIVE, ()), fewest_for(TWO, FIVE, ()), paper_for(TWO, FIVE, ())], [(), 0, ()])
        far = parts("3:0:1")
        self.assertEqual([cover_for(TWO, FIVE, far), fewest_for(TWO, FIVE, far), paper_for(TWO, FIVE, far)],
                         [((8, 1),), 1, grounds("3:1/2")])
        # Parts that touch, within one slope, and one within another.
        for some in (parts("1:0:1/3 1:1/3:1"), parts("1:1/4:3/4"), parts("1:0:1 1:1/3:1/2")):
            self.assertEqual(fewest_for(TWO, FIVE, some), 1)
            self.assertEqual(cover_for(TWO, FIVE, some), drones_by_words(TWO, FIVE, some))
        self.assertEqual(cover_for(TWO, FIVE, parts("0:1/2:1 4:1/4:1/2")), places("9/4 8"))
        self.assertEqual(cover_for(VALLEYS, (10, 1), parts("0:0:1/9 9:8/9:1")), places("35/9 11"))


class Paper(unittest.TestCase):
    def test_by_the_words(self):
        for _, ridge, h, some in cases(3, 150):
            self.assertEqual(paper(ridge, h), paper_by_words(ridge, h, whole(ridge)))
            self.assertEqual(paper_for(ridge, h, some), paper_by_words(ridge, h, some))
            self.assertEqual(paper_for(ridge, h, whole(ridge)), paper(ridge, h))

    def test_the_first_share_is_not_enough(self):
        found = {}
        rng = dice(4)
        for _ in range(400):
            ridge, h = some_case(rng, rng.randint(5, 9))
            told_paper, drones = paper(ridge, h), cover(ridge, h)
            for k, (i, t) in enumerate(told_paper):
                ahead = drones[k - 1] if k else None
                rows = [row for row in waiting_by_words(ridge, h, whole(ridge), ahead) if row[3] == exact(drones[k])]
                self.assertEqual(i, rows[0][0])
                n = (rows[0][2] - rows[0][1]) / (rows[0][2] - exact(t))
                found[n] = found.get(n, 0) + 1
                if k == len(drones) - 1:
                    self.assertEqual(n, 2)
                elif n > 2:
                    nearer = (i, told(rows[0][2] - (rows[0][2] - rows[0][1]) / (n / 2)))
                    self.assertGreaterEqual(
                        compared(reach(ridge, h, nearer)[1], reach(ridge, h, told_paper[k + 1])[0]), 0)
        self.assertTrue(set(found) <= {2 ** k for k in range(1, 40)})
        self.assertTrue(all(found.get(n, 0) > 0 for n in (2, 4)), found)

    def test_an_end_just_at_the_next_ones_is_not_below(self):
        steps = spots("0,4 1,0 2,4 4,4 5,0 6,4")
        some = parts("0:1/2:1 3:0:1")
        self.assertEqual(cover_for(steps, (7, 1), some), places("11/4 6"))
        self.assertEqual([slope_reach(steps, (7, 1), 0, frac("3/4"))[1], slope_reach(steps, (7, 1), 3, frac("1/2"))[0]],
                         [frac("13/4")] * 2)
        self.assertEqual(paper_for(steps, (7, 1), some), grounds("0:7/8 3:1/2"))
        self.assertEqual(paper_for(steps, (7, 1), parts("0:51/100:1 3:0:1")), grounds("0:151/200 3:1/2"))

    def test_of_several_slopes_the_least(self):
        self.assertEqual(tuple(slope_reach(TWO, FIVE, i, (1, 1))[1] for i in range(3)), places("9/4 9/4 8"))
        self.assertEqual(paper(TWO, FIVE), grounds("0:1/2 3:1/2"))
        self.assertEqual(paper_for(TWO, FIVE, parts("0:1/4:1/2 1:1/2:1 3:0:1")), grounds("1:3/4 3:1/2"))
        # Of two parts of one slope with the same end the first.
        self.assertEqual(paper_for(TWO, FIVE, parts("1:1/3:1/2 1:2/3:1 3:0:1")), grounds("1:5/12 3:1/2"))


class AsManyAs(unittest.TestCase):
    def test_on_many_ridges(self):
        rng = dice(5)
        most = 0
        for _ in range(150):
            ridge, h = some_case(rng, rng.randint(2, 12))
            some = some_parts(rng, ridge, 5)
            most = max(most, fewest(ridge, h))
            for ground, drones, shown in ((whole(ridge), cover(ridge, h), paper(ridge, h)),
                                          (some, cover_for(ridge, h, some), paper_for(ridge, h, some))):
                self.assertEqual(len(drones), len(shown))
                self.assertEqual(dark_by_words(ridge, h, drones, ground), ())
                for one, other in zip(shown, shown[1:]):
                    self.assertLess(ends_by_words(ridge, exact(h), one[0], exact(one[1]))[1],
                                    ends_by_words(ridge, exact(h), other[0], exact(other[1]))[0])
                self.assertIsNone(judge_cover_for(ridge, h, ground, drones))
                self.assertIsNone(judge_paper_for(ridge, h, ground, shown))
            self.assertIsNone(judge_cover(ridge, h, cover(ridge, h)))
            self.assertIsNone(judge_paper(ridge, h, paper(ridge, h)))
            self.assertLessEqual(fewest(ridge, h), most_drones(ridge, h))
        self.assertGreater(most, 2)

    def test_no_drone_of_a_cover_can_be_left_out(self):
        for _, ridge, h, _ in cases(6, 40):
            drones = cover(ridge, h)
            for k in range(len(drones)):
                fault = judge_cover(ridge, h, drones[:k] + drones[k + 1:])
                self.assertEqual(fault[0], "dark")


class JudgeCover(unittest.TestCase):
    def test_form(self):
        for value in NONE_AT_ALL + [nested(30), [], [(2, 1)], ((5, 1),), ((-1, 1),), ((1, 1), (1, 1)), ((3, 1), (1, 1)),
                                    ([3, 1],), ((3, 1), 4), ((6, 2),), ((True, 1),), ((1, True),), (((3, 1),),),
                                    ((1, 1), (3, 1), (2, 1)), (("3", "1"),), ((3, 1), None), ((401, 100),)]:
            expected = ("dark", part("0:0:1")) if value == () else ("form",)
            self.assertEqual(judge_cover(HILL, (3, 1), value), expected, value)
            expected = None if value == () else ("form",)
            self.assertEqual(judge_cover_for(HILL, (3, 1), (), value), expected, value)

    def test_form_comes_ahead_of_dark(self):
        self.assertEqual(judge_cover(TWO, FIVE, places("1 1")), ("form",))
        self.assertEqual(judge_cover(TWO, FIVE, places("0 9")), ("form",))
        self.assertEqual(judge_cover(TWO, FIVE, places("6 2")), ("form",))

    def test_dark(self):
        for value, expected in [("", part("0:0:1")), ("9/4", part("3:0:1")), ("8", part("0:2/25:1")),
                                ("2", part("3:0:1")), ("1/2 3", part("3:0:1")),
                                ("0 9/4", part("3:0:1"))]:
            self.assertEqual(judge_cover(TWO, FIVE, places(value)), ("dark", expected), value)
        for value in ("2 6", "9/4 8", "0 8", "7/4 23/4", "9/4 25/4", "0 2 6 8", "1 2 3 4 5 6 7 8"):
            self.assertIsNone(judge_cover(TWO, FIVE, places(value)), value)
        for value in ("22/13 6", "9/4 40/7", "9/4 63/10 13/2", "23/10 6"):
            dark = dark_by_words(TWO, FIVE, places(value), whole(TWO))
            self.assertEqual(judge_cover(TWO, FIVE, places(value)), ("dark", dark[0]) if dark else None)

    def test_by_the_words(self):
        dark = 0
        for rng, ridge, h, some in cases(7, 120):
            drones = some_drones(rng, ridge, rng.randint(0, 4), cover(ridge, h))
            for ground, fault in ((whole(ridge), judge_cover(ridge, h, drones)),
                                  (some, judge_cover_for(ridge, h, some, drones))):
                expected = dark_by_words(ridge, h, drones, ground)
                self.assertEqual(fault, ("dark", expected[0]) if expected else None)
                dark += fault is not None
        self.assertTrue(20 < dark < 220)

    def test_for_parts(self):
        far = parts("3:0:1")
        self.assertIsNone(judge_cover_for(TWO, FIVE, far, places("6")))
        self.assertIsNone(judge_cover_for(TWO, FIVE, far, places("0 6")))
        self.assertEqual(judge_cover_for(TWO, FIVE, far, places("2")), ("dark", far[0]))
        self.assertEqual(judge_cover_for(TWO, FIVE, parts("2:0:1 4:1/2:1"), places("9/4")), ("dark", part("4:1/2:7/8")))
        self.assertEqual(judge_cover_for(TWO, FIVE, (), ()), None)
        self.assertEqual(judge_cover_for(TWO, FIVE, far, [(6, 1)]), ("form",))


class JudgePaper(unittest.TestCase):
    def test_form(self):
        for value in NONE_AT_ALL + [nested(30), [], [(0, (1, 2))], ((2, (0, 1)),), ((-1, (0, 1)),), ((0, (3, 2)),),
                                    ((0, (-1, 2)),), ((0, (2, 4)),), ((True, (1, 2)),), ((0, (True, 1)),), (0, (1, 2)),
                                    ([0, (1, 2)],), ((0, [1, 2]),), ((0, (1, 2)), None), ((0, 1, 2),), ((0,),)]:
            self.assertEqual(judge_paper(HILL, (3, 1), value), None if value == () else ("form",), value)
            self.assertEqual(judge_paper_for(HILL, (3, 1), parts("0:0:1 1:0:1"), value),
                             None if value == () else ("form",), value)

    def test_form_comes_ahead_of_meets(self):
        self.assertEqual(judge_paper(TWO, FIVE, grounds("0:1/2 1:1/2 5:0")), ("form",))
        self.assertEqual(judge_paper_for(TWO, FIVE, parts("0:0:1 1:0:1"), grounds("0:1/2 1:1/2 4:1/2")), ("form",))

    def test_meets(self):
        for value, expected in [("", None), ("0:1/2", None), ("0:1/2 3:1/2", None), ("3:1/2 0:1/2", 0),
                                ("0:1/2 1:1/2", 0), ("0:1/2 0:1/2", 0), ("0:1 3:1 4:1/2", 1), ("0:1 3:1 0:1", 1),
                                ("0:1 2:1/2 4:1/2", 0), ("0:1 4:1", 0), ("0:1 4:0", None), ("0:1 4:1/2 4:1/2 0:0", 1)]:
            fault = None if expected is None else ("meets", expected)
            self.assertEqual(judge_paper(TWO, FIVE, grounds(value)), fault, value)

    def test_right_end_just_at_the_next_left_end(self):
        steps = spots("0,4 1,0 2,4 4,4 5,0 6,4")
        self.assertEqual([reach(steps, (8, 1), (0, (1, 1)))[1], reach(steps, (8, 1), (3, (1, 1)))[0]], [frac("3")] * 2)
        self.assertEqual(judge_paper(steps, (8, 1), grounds("0:1 3:1")), ("meets", 0))
        self.assertEqual(judge_paper(steps, frac("799/100"), grounds("0:1 3:1")), None)

    def test_reaches_are_those_of_spots_not_of_slopes(self):
        # A corner is seen from beyond the line of its slope.
        self.assertEqual([slope_reach(HILL, (3, 1), 0, (1, 1)), reach(HILL, (3, 1), (0, (1, 1)))],
                         [places("0 3"), places("0 4")])
        bumps = spots("0,0 1,4 2,0 5,0 6,4 7,0")
        self.assertEqual([slope_reach(bumps, FIVE, 0, (1, 1))[1], slope_reach(bumps, FIVE, 4, (0, 1))[0]],
                         [frac("5/4"), frac("23/4")])
        self.assertEqual(judge_paper(bumps, FIVE, grounds("0:999/1000 4:1/1000")), None)
        self.assertEqual(judge_paper(bumps, FIVE, grounds("0:1 4:0")), ("meets", 0))

    def test_by_the_words(self):
        for rng, ridge, h, some in cases(8, 100):
            shown = [(rng.randrange(len(ridge) - 1), rng.choice(places("0 1 1/2 1/3"))) for _ in range(rng.randint(0, 3))]
            shown.sort(key=lambda g: exact(spot_of(ridge, g)[0]))
            found = [reach(ridge, h, g) for g in shown]
            meets = [k for k in range(len(shown) - 1) if exact(found[k][1]) >= exact(found[k + 1][0])]
            fault = ("meets", meets[0]) if meets else None
            self.assertEqual(judge_paper(ridge, h, tuple(shown)), fault)
            for i, t in shown:
                if not any(k == i and exact(a) <= exact(t) <= exact(b) for k, a, b in some):
                    fault = ("form",)
            self.assertEqual(judge_paper_for(ridge, h, some, tuple(shown)), fault)

    def test_spots_that_lie_in_no_part(self):
        some = parts("0:1/4:1/2 0:3/4:1 3:1/3:2/3")
        for value, fine in [("0:1/4", True), ("0:1/2", True), ("0:3/8", True), ("0:3/4", True), ("0:1", True),
                            ("3:1/3", True), ("3:2/3", True), ("0:1/5", False), ("0:5/8", False), ("0:0", False),
                            ("1:0", False), ("1:1/2", False), ("3:1/4", False), ("3:3/4", False), ("4:1/2", False)]:
            self.assertEqual(judge_paper_for(TWO, FIVE, some, grounds(value)), None if fine else ("form",), value)
            self.assertIsNone(judge_paper(TWO, FIVE, grounds(value)))
        self.assertEqual(judge_paper_for(TWO, FIVE, (), grounds("0:1/2")), ("form",))
        self.assertIsNone(judge_paper_for(TWO, FIVE, (), ()))
        self.assertIsNone(judge_paper_for(TWO, FIVE, some, grounds("0:1/2 3:1/2")))
        self.assertEqual(judge_paper_for(TWO, FIVE, some, grounds("0:1/2 0:1")), ("meets", 0))


class ItEnds(unittest.TestCase):
    def test_steepest(self):
        self.assertEqual([steepest(HILL), steepest(TWO), steepest(LEVEL), steepest(spots("0,0 2,-3 3,-2"))],
                         [(1, 1), (4, 1), (0, 1), (3, 2)])

    def test_sure_step(self):
        self.assertEqual([sure_step(HILL, (3, 1)), sure_step(TWO, (5, 1)), sure_step(TWO, (400, 1)), sure_step(LEVEL, (9, 1))],
                         [(1, 1), (1, 4), (99, 1), None])

    def test_most_drones(self):
        self.assertEqual([most_drones(TWO, (5, 1)), most_drones(HILL, (3, 1)), most_drones(HILL, (4, 1)),
                          most_drones(HILL, frac("401/100")), most_drones(HILL, frac("399/100")), most_drones(LEVEL, (9, 1))],
                         [18, 4, 3, 2, 3, 1])

    def test_no_end_is_nearer_than_the_sure_step(self):
        for _, ridge, h, _ in cases(9, 40):
            step = sure_step(ridge, h)
            start, end = line_of(ridge)
            for i in range(len(ridge) - 1):
                for t in places("0 1/5 2/3 1"):
                    x = spot_of(ridge, (i, t))[0]
                    for left, right in (reach(ridge, h, (i, t)), slope_reach(ridge, h, i, t)):
                        if step is None:
                            self.assertEqual((left, right), (start, end))
                            continue
                        self.assertTrue(left == start or compared(lessened(x, left), step) >= 0)
                        self.assertTrue(right == end or compared(lessened(right, x), step) >= 0)


class Plain(unittest.TestCase):
    def test_same_calls_same_answers(self):
        for _, ridge, h, some in cases(10, 5):
            for call in (cover, paper, fewest, most_drones):
                self.assertEqual(call(ridge, h), call(ridge, h))
            self.assertEqual(cover_for(ridge, h, some), cover_for(ridge, h, some))


if __name__ == "__main__":
    unittest.main()
