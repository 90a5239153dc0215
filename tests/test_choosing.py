"""Promises 11.1 to 11.4, 11.7, and gap of 11.6."""

import unittest
from fractions import Fraction

from helpers import (
    NONE_AT_ALL, chosen_by_words, dice, exact, grounds, hidden_by_words, nested, places, room_of, sees_by_words,
    some_case, some_choice, some_drones, some_graph, some_points, some_spots_in, some_teeth, spot_told, spots, told,
)
from ridgewatch.cameras import comb, tips
from ridgewatch.choosing import (
    cases_for, choice_of_ridge, choice_of_room, fewest_cameras, gap, is_choice, judge_cameras, judge_cases,
    judge_hidden, judge_verdict, most_hidden, right_ends, sees_spot, spots_seen, unseen, verdict,
)
from ridgewatch.sight import reach
from ridgewatch.surveys import combs

RING = (3, ((0, 1), (1, 2), (0, 2)))
ROW = (4, ((0, 1), (1, 2, 3), (3,), (0,)))
DARK = (2, ((0,),))
NOTHING = (0, ())
NO_SPOTS = (0, ((), ()))
NO_CAMERAS = (3, ())
FIVE = (5, ((0, 1), (1, 2), (2, 3), (3, 4), (0, 4)))
"""Five spots, five cameras, each seeing two: three are needed, two can hide."""

NO_NUMBERS = [
    value for value in NONE_AT_ALL + [
        nested(30), [0], [0, 1], (1, 0), (0, 0), (-1,), (-1, 0), (False,), (False, 1), (0, True), ("0",), (0, "1"),
        (0, None), (0, (1,)), ((0, 1),),
        {0: 1}, (0, 10 ** 59), "01", (0, [1])] if value not in [(), (1,), (0, 2)] or not isinstance(value, tuple)]
"""What is no ascending tuple of unlike integers from 0 to 2."""

RIDGE = spots("0,2 2,0 4,2 6,0")
ROOM = spots("0,0 4,0 4,2 2,2 2,4 0,4")


def several_rings(many):
    """So many rings beside one another."""
    lots = [tuple(sorted((3 * k + i, 3 * k + j))) for k in range(many) for i, j in ((0, 1), (1, 2), (0, 2))]
    return (3 * many, tuple(lots))


def cases_fault(choice, m, value, out=(), way=()):
    """What 11.3 tells of judge_cases, by the words; value is made of tuples, texts and integers."""
    n, lots = choice
    if isinstance(value, tuple) and len(value) == 2 and value[0] == "hidden" and isinstance(value[1], tuple):
        spots_told = value[1]
        if judge_hidden(choice, spots_told) is None and not set(spots_told) & set(out) and len(spots_told) == m + 1:
            return None
        return ("hidden", way)
    if not (isinstance(value, tuple) and len(value) == 3 and value[0] == "split" and isinstance(value[2], tuple)
            and isinstance(value[1], int) and not isinstance(value[1], bool) and value[1] >= 0):
        return ("form", way)
    _, j, branches = value
    watching = [c for c in range(len(lots)) if j in lots[c]]
    if m < 1 or j >= n or j in out or len(branches) != len(watching):
        return ("split", way)
    faults = [cases_fault(choice, m - 1, branch, tuple(out) + lots[c], way + (k,))
              for k, (c, branch) in enumerate(zip(watching, branches))]
    faults = sorted([fault for fault in faults if fault], key=lambda fault: fault[1])
    return faults[0] if faults else None


def spoilt(rng, value):
    """Cases with one thing in them exchanged, left out, doubled or with the other sign."""
    if isinstance(value, tuple) and value and rng.random() < 0.96:
        k = rng.choice((rng.randrange(len(value)), len(value) - 1))
        kind = rng.random()
        if kind < 0.06:
            return value[:k] + value[k + 1:]
        if kind < 0.12:
            return value[:k] + (value[k],) + value[k:]
        return value[:k] + (spoilt(rng, value[k]),) + value[k + 1:]
    if isinstance(value, int):
        return rng.choice((value + 1, value - 1, -value, True, False, 99, None))
    return rng.choice((None, (), 0, "hidden", "split", [], list(value) if isinstance(value, tuple) else value))


class Choices(unittest.TestCase):
    def test_is_choice(self):
        for value in (RING, ROW, DARK, NOTHING, NO_SPOTS, NO_CAMERAS, (10 ** 59, ((0, 10 ** 58),)),
                      (1, ((0,), (0,), ()))):
            self.assertIs(is_choice(value), True, value)
        for value in NONE_AT_ALL + [
                nested(30), (3, ((0, 3),)), (2, [(0,)]), [2, ((0,),)], (2, ((0,),), ()), (2,), (-1, ()), (True, ()),
                (False, ()),
                (None, ()), ("2", ()), ((2,), ()), (2, ((1, 0),)), (2, ((0, 0),)), (2, ((0, True),)), (2, ((False,),)),
                (2, ([0],)), (2, ((0,), None)), (2, (0, 1)), (2, ((-1,),)), (2, (("0",),)), (2, {}), (2, None),
                (0, ((0,),)),
                (2, (((0,),),)), (3, ((0, 1), (2, 1))), ((), 3), (3, ((None,),))]:
            self.assertIs(is_choice(value), False, value)

    def test_of_a_ridge(self):
        told = choice_of_ridge(RIDGE, (3, 1), places("0 3"), grounds("0:1/2 2:1/2 2:0"))
        self.assertEqual(told, (3, ((0, 2), (0, 1, 2))))
        self.assertEqual(choice_of_ridge(RIDGE, (3, 1), (), grounds("0:0")), (1, ()))
        self.assertEqual(choice_of_ridge(RIDGE, (3, 1), places("0 1"), ()), NO_SPOTS)

    def test_of_a_ridge_in_any_sequence(self):
        told = choice_of_ridge(RIDGE, (3, 1), places("6 0 3 0"), grounds("2:1/2 0:1 2:1/2"))
        self.assertEqual(told, (3, ((0, 2), (1,), (0, 1, 2), (1,))))
        self.assertIs(is_choice(told), True)

    def test_of_a_room(self):
        one, other, middle = spots("3,1 1,3 1,1")
        self.assertEqual(choice_of_room(ROOM, (one, other, middle), (ROOM[4], ROOM[1], middle)),
                         (3, ((1, 2), (0, 1, 2), (0, 1, 2))))
        self.assertEqual(choice_of_room(ROOM, (one, one), (other, one, other)), (3, ((0, 1, 2),) * 2))
        self.assertEqual(choice_of_room(ROOM, (one, ROOM[2]), (ROOM[4], ROOM[5])), (2, ((1,), ())))
        self.assertEqual([choice_of_room(ROOM, (), (one,)), choice_of_room(ROOM, (one,), ())], [(1, ()), (0, ((),))])

    def test_of_ridges_by_the_words(self):
        rng = dice(1)
        some = 0
        for _ in range(40):
            ridge, h = some_case(rng, rng.randint(4, 12))
            drones = list(some_drones(rng, ridge, 6))
            drones = tuple(rng.choices(drones, k=rng.randint(0, 6)))
            watched = tuple((rng.randrange(len(ridge) - 1),
                             rng.choice(places("0 1/4 1/2 2/3 1"))) for _ in range(rng.randint(0, 9)))
            told = choice_of_ridge(ridge, h, drones, watched)
            lots = []
            for x in drones:
                ends = [reach(ridge, h, g) for g in watched]
                lots.append(tuple(j for j, (left, right) in enumerate(ends) if exact(left) <= exact(x) <= exact(right)))
            self.assertEqual(told, (len(watched), tuple(lots)))
            some += any(0 < len(lot) < len(watched) for lot in lots)
        self.assertGreater(some, 5)

    def test_of_rooms_by_the_words(self):
        rng = dice(2)
        for _ in range(25):
            points = some_points(rng, rng.randint(3, 9))
            inside = some_spots_in(rng, points)
            eyes, watched = rng.choices(inside, k=rng.randint(0, 4)), rng.choices(inside, k=rng.randint(0, 5))
            told = choice_of_room(room_of(points), tuple(map(spot_told, eyes)), tuple(map(spot_told, watched)))
            lots = tuple(tuple(j for j, q in enumerate(watched) if sees_by_words(points, p, q)) for p in eyes)
            self.assertEqual(told, (len(watched), lots))

    def test_who_sees_what(self):
        self.assertEqual([sees_spot(ROW, j) for j in range(4)], [(0, 3), (0, 1), (1,), (1, 2)])
        self.assertEqual([sees_spot(DARK, 1), sees_spot(NO_CAMERAS, 2)], [(), ()])
        self.assertEqual([spots_seen(ROW, cameras) for cameras in ((), (2, 3), (3, 2, 3), (1, 0), (2,))],
                         [(), (0, 3), (0, 3), (0, 1, 2, 3), (3,)])
        self.assertEqual([unseen(choice) for choice in (RING, ROW, DARK, NOTHING, NO_SPOTS, NO_CAMERAS)],
                         [(), (), (1,), (), (), (0, 1, 2)])
        self.assertEqual(unseen((5, ((3,), (1, 3)))), (0, 2, 4))


class Covers(unittest.TestCase):
    def test_fewest_cameras(self):
        for choice, expected in [(RING, (0, 1)), (ROW, (0, 1)), (DARK, None), (NOTHING, ()), (NO_SPOTS, ()),
                                 (NO_CAMERAS, None), (FIVE, (0, 1, 3)),
                                 ((2, ((0,), (1,), (0, 1))), (2,)), ((2, ((), (0, 1), (0, 1))), (1,)),
                                 ((1, ((), (0,))), (1,)),
                                 ((4, ((0, 1), (2,), (3,), (1, 2), (0, 3))), (3, 4))]:
            self.assertEqual(fewest_cameras(choice), expected)

    def test_judge_cameras(self):
        for value in ((0, 1), (0, 2), (1, 2), (0, 1, 2)):
            self.assertIsNone(judge_cameras(RING, value))
        for value, expected in [((), ("spot", 0)), ((0,), ("spot", 2)), ((1,), ("spot", 0)), ((2,), ("spot", 1))]:
            self.assertEqual(judge_cameras(RING, value), expected)
        self.assertEqual([judge_cameras(NOTHING, ()), judge_cameras(NO_SPOTS, (1,)), judge_cameras(NO_CAMERAS, ())],
                         [None, None, ("spot", 0)])
        self.assertEqual([judge_cameras(DARK, (0,)), judge_cameras(ROW, (0, 2)), judge_cameras(ROW, (1, 2))],
                         [("spot", 1), ("spot", 2), ("spot", 0)])

    def test_judge_cameras_form(self):
        for value in NO_NUMBERS + [(0, 3), (0, 1, 2, 3)]:
            self.assertEqual(judge_cameras(RING, value), ("form",), value)
        self.assertEqual([judge_cameras(NOTHING, (0,)), judge_cameras(NOTHING, [])], [("form",), ("form",)])


class Hidden(unittest.TestCase):
    def test_most_hidden(self):
        for choice, expected in [(RING, (0,)), (ROW, (0, 2)), (DARK, (0,)), (NOTHING, ()), (NO_SPOTS, ()),
                                 (NO_CAMERAS, ()), (FIVE, (0, 2)),
                                 ((4, ((1, 2), (2, 3))), (1, 3)), ((4, ((0, 1, 2, 3), (2,))), (0,)),
                                 ((3, ((0,), (1,), (2,))), (0, 1, 2)),
                                 ((5, ((0, 1, 2), (0, 3), (0, 4))), (1, 3, 4))]:
            self.assertEqual(most_hidden(choice), expected)

    def test_judge_hidden(self):
        for choice, value, expected in [
                (RING, (), None), (RING, (2,), None), (RING, (0, 1), ("both", 0, 1, 0)),
                (RING, (1, 2), ("both", 1, 2, 1)),
                (RING, (0, 1, 2), ("both", 0, 1, 0)), (ROW, (0, 3), None), (ROW, (0, 2, 3), ("both", 2, 3, 1)),
                (DARK, (0, 1), ("unseen", 1)),
                (DARK, (1,), ("unseen", 1)), (NO_CAMERAS, (1, 2), ("unseen", 1)),
                ((3, ((0, 2), (0, 2))), (0, 1, 2), ("unseen", 1)),
                ((3, ((0, 2), (0, 2))), (0, 2), ("both", 0, 2, 0)),
                ((4, ((2, 3), (1, 3), (0, 3))), (0, 1, 2, 3), ("both", 0, 3, 2)),
                ((4, ((2, 3), (1, 3), (1, 2))), (1, 2, 3), ("both", 1, 2, 2))]:
            self.assertEqual(judge_hidden(choice, value), expected)

    def test_judge_hidden_form(self):
        for value in NO_NUMBERS + [(3,), (0, 1, 2, 3)]:
            self.assertEqual(judge_hidden(RING, value), ("form",), value)
        self.assertEqual(judge_hidden(NOTHING, (0,)), ("form",))
        # The form goes ahead of spots that nobody sees.
        self.assertEqual(judge_hidden(NO_CAMERAS, (0, 3)), ("form",))

    def test_a_gap(self):
        self.assertEqual([len(fewest_cameras(RING)), len(most_hidden(RING)), gap(RING)], [2, 1, 1])
        self.assertEqual([gap(choice) for choice in (ROW, DARK, NOTHING, NO_SPOTS, NO_CAMERAS, FIVE, several_rings(3))],
                         [0, None, 0, 0, None, 1, 3])

    def test_in_a_room(self):
        told = choice_of_room(comb(3), tuple(corner for corner in comb(3)), tips(3))
        self.assertEqual([len(fewest_cameras(told)), most_hidden(told), gap(told)], [3, (0, 1, 2), 0])

    def test_by_the_words(self):
        rng = dice(3)
        found = {}
        for _ in range(250):
            choice = some_choice(rng, rng.randint(0, 7), rng.randint(0, 8), rng.choice((0.15, 0.25, 0.4, 0.7)))
            if rng.random() < 0.2:
                choice = some_graph(rng, rng.randint(3, 6), rng.randint(3, 8))
            cover, hidden = chosen_by_words(choice), hidden_by_words(choice)
            self.assertEqual([fewest_cameras(choice), most_hidden(choice)], [cover, hidden])
            self.assertEqual(gap(choice), None if cover is None else len(cover) - len(hidden))
            self.assertIsNone(judge_hidden(choice, hidden))
            self.assertIs(cover is None, unseen(choice) != ())
            self.assertTrue(cover is None or judge_cameras(choice, cover) is None and len(cover) >= len(hidden))
            found[gap(choice)] = found.get(gap(choice), 0) + 1
        self.assertTrue(all(found.get(kind, 0) > 3 for kind in (None, 0, 1)), found)

    def test_as_great_as_callers_pass(self):
        rng = dice(4)
        for share in (0.1, 0.2, 0.35, 0.6):
            choice = some_choice(rng, 12, 16, share, seen=True)
            self.assertIsNone(judge_verdict(choice, verdict(choice)))
            self.assertIsNone(judge_hidden(choice, most_hidden(choice)))
            self.assertGreaterEqual(gap(choice), 0)


class Cases(unittest.TestCase):
    def test_cases_for(self):
        self.assertEqual([cases_for(RING, 2), cases_for(RING, 3), cases_for(NOTHING, 0), cases_for(NO_SPOTS, 0),
                          cases_for(ROW, 12)], [None] * 5)
        self.assertEqual([judge_cases(RING, m, cases_for(RING, m)) for m in range(2)], [None, None])
        self.assertEqual(cases_for((1, ((0,),)), 0), ("hidden", (0,)))
        self.assertIn(cases_for((2, ((0, 1),)), 0), (("hidden", (0,)), ("hidden", (1,))))
        # No two spots are hidden, so a split is needed.
        self.assertEqual(cases_for(RING, 1)[0], "split")
        self.assertEqual(cases_for(several_rings(4), 7)[0], "split")

    def test_just_one_of_both(self):
        rng = dice(5)
        splits = 0
        for _ in range(120):
            choice = some_choice(rng, rng.randint(1, 8), rng.randint(0, 9), rng.choice((0.15, 0.25, 0.4)), seen=True)
            if rng.random() < 0.4:
                choice = some_graph(rng, rng.randint(3, 7), rng.randint(3, 12))
            many = len(chosen_by_words(choice))
            for m in range(many + 2):
                cases = cases_for(choice, m)
                self.assertIs(cases is None, m >= many)
                if cases is not None:
                    self.assertEqual([judge_cases(choice, m, cases), cases_fault(choice, m, cases)], [None, None])
                    splits += cases[0] == "split"
        self.assertGreater(splits, 5)

    def test_several_rings(self):
        for k in range(1, 5):
            choice = several_rings(k)
            for m in range(2 * k):
                self.assertIsNone(judge_cases(choice, m, cases_for(choice, m)))
            self.assertIsNone(cases_for(choice, 2 * k))

    def test_judge_cases(self):
        right = ("split", 0, (("hidden", (2,)), ("hidden", (1,))))
        for m, value, expected in [
                (1, right, None), (0, ("hidden", (1,)), None), (1, ("hidden", (0, 1)), ("hidden", ())),
                (1, ("hidden", (0,)), ("hidden", ())),
                (0, ("hidden", ()), ("hidden", ())), (0, ("hidden", (3,)), ("hidden", ())),
                (0, ("hidden", ("0",)), ("hidden", ())),
                (0, ("hidden", (True,)), ("hidden", ())), (0, ("hidden", ((0,),)), ("hidden", ())),
                (1, ("split", 1, (("hidden", (2,)), ("hidden", (0,)))), None),
                (1, ("split", 2, (("hidden", (0,)), ("hidden", (1,)))), None),
                (1, ("split", 0, (("hidden", (1,)), ("hidden", (1,)))), ("hidden", (0,))),
                (1, ("split", 0, (("hidden", (2,)), ("hidden", (2,)))), ("hidden", (1,))),
                (1, ("split", 0, (("hidden", (2,)), ("hidden", (0,)))), ("hidden", (1,))),
                (1, ("split", 0, (("hidden", (1,)), None)), ("hidden", (0,))),
                (1, ("split", 0, (None, ("hidden", (2,)))), ("form", (0,))),
                (1, ("split", 0, (("hidden", (2,)),)), ("split", ())), (1, ("split", 0, ()), ("split", ())),
                (1, ("split", 0, (("hidden", (2,)),) * 3), ("split", ())), (1, ("split", 3, ()), ("split", ())),
                (1, ("split", 10 ** 59, ()), ("split", ())), (0, ("split", 0, ()), ("split", ())),
                (0, right, ("split", ())),
                (2, right, ("hidden", (0,))), (1, ("split", 0, (right, right)), ("split", (0,))),
                (2, ("split", 0, (("split", 1, (None, None)), None)), ("split", (0,))),
                (2, ("split", 0, (("split", 2, ()), None)), ("split", (0,)))]:
            self.assertEqual(judge_cases(RING, m, value), expected, (m, value))

    def test_judge_cases_form(self):
        inner = (("hidden", (2,)), ("hidden", (1,)))
        for value in NONE_AT_ALL + [
                nested(30), ("hidden",), ("hidden", [2]), ("hidden", 2), ("hidden", (2,), ()), ["hidden", (2,)],
                ("hide", (2,)), ("split", 0, list(inner)),
                ("split", 0), ("split", True, inner), ("split", False, inner), ("split", -1, inner),
                ("split", "0", inner), ("split", None, inner),
                ("split", (0,), inner), ("split", 0, inner, ()), ["split", 0, inner], ("Split", 0, inner),
                ("split", 0, None), (0, "split", inner),
                ("split", [0], inner), ("hidden", {}), ("split", 0, {}), "hidden", (("hidden", (2,)),), ("hidden", "2"),
                ("split", 0, "ab")]:
            self.assertEqual(judge_cases(RING, 1, value), ("form", ()), value)
            whole = ("split", 0, (("hidden", (2,)), value))
            self.assertEqual(judge_cases(RING, 1, whole), ("form", (1,)), value)

    def test_deep_cases(self):
        value = None
        for _ in range(30):
            value = ("split", 0, (value, value))
        self.assertEqual([judge_cases(RING, 1, value), judge_cases(RING, 12, value)],
                         [("split", (0,)), ("split", (0,))])
        value = ("hidden", (0,))
        for j in range(11):
            value = ("split", 11 - j, (value,))
        wide = (12, tuple((j,) for j in range(12)))
        self.assertEqual([judge_cases(wide, m, value) for m in (10, 11, 12)],
                         [("split", (0,) * 10), None, ("hidden", (0,) * 11)])

    def test_spots_that_are_out(self):
        # Camera 0 sees 0 and 1, so behind it 1 is out: for splits and for hidden spots.
        choice = (4, ((0, 1), (1, 2), (2, 3), (0, 3)))
        self.assertEqual(judge_cases(choice, 1, ("split", 0, (("hidden", (2,)), ("hidden", (1,))))), None)
        self.assertEqual(judge_cases(choice, 1, ("split", 0, (("hidden", (0,)), ("hidden", (1,))))), ("hidden", (0,)))
        inner = ("split", 1, (("hidden", (2,)), ("hidden", (3,))))
        self.assertEqual(judge_cases(choice, 2, ("split", 0, (inner, inner))), ("split", (0,)))
        self.assertEqual(judge_cases(choice, 2, ("split", 3, (inner, inner))), ("hidden", (0, 0)))
        # A camera that sees nothing that is left still has its branch.
        again = (2, ((0, 1), (0,), (1,)))
        self.assertEqual(judge_cases(again, 1, ("split", 0, (("hidden", ()), ("hidden", (1,))))), ("hidden", (0,)))

    def test_spots_that_nobody_sees(self):
        self.assertEqual([judge_cases(DARK, m, ("split", 1, ())) for m in range(3)], [("split", ()), None, None])
        self.assertEqual([judge_cases(DARK, 0, ("hidden", (1,))), judge_cases(NO_CAMERAS, 1, ("split", 2, ()))],
                         [("hidden", ()), None])
        self.assertEqual(judge_cases(DARK, 2, ("split", 0, (("split", 1, ()),))), None)
        self.assertEqual([judge_cases(NOTHING, 0, ("hidden", ())), judge_cases(NOTHING, 1, ("split", 0, ()))],
                         [("hidden", ()), ("split", ())])

    def test_judge_cases_by_the_words(self):
        rng = dice(6)
        kinds = {}
        for _ in range(120):
            choice = rng.choice((several_rings(2), several_rings(1), FIVE,
                                 some_graph(rng, rng.randint(3, 6), rng.randint(3, 8)),
                                 some_choice(rng, rng.randint(2, 6), rng.randint(2, 7), 0.25, seen=True)))
            m = len(fewest_cameras(choice)) - 1
            cases = cases_for(choice, m)
            for _ in range(12):
                value = spoilt(rng, cases)
                if rng.random() < 0.4:
                    value = spoilt(rng, value)
                told = judge_cases(choice, m, value)
                self.assertEqual(told, cases_fault(choice, m, value), (choice, m, value))
                kind = told and (told[0], min(len(told[1]), 1))
                kinds[kind] = kinds.get(kind, 0) + 1
        self.assertGreater(min(kinds.get((word, deep), 0) for word in ("form", "hidden", "split") for deep in (0, 1)),
                           5, kinds)


class Verdicts(unittest.TestCase):
    def test_verdict(self):
        self.assertEqual([verdict(choice) for choice in (NOTHING, NO_SPOTS, DARK, NO_CAMERAS)],
                         [(0, (), ()), (0, (), ()), None, None])
        self.assertEqual(verdict((2, ((0,), (1,)))), (2, (0, 1), ("hidden", (0, 1))))
        for choice in (RING, ROW, FIVE, NOTHING, NO_SPOTS, several_rings(4)):
            told = verdict(choice)
            self.assertEqual([told[0], told[1], judge_verdict(choice, told)],
                             [len(told[1]), fewest_cameras(choice), None])

    def test_judge_verdict(self):
        k, cover, cases = verdict(RING)
        for value, expected in [
                ((2, (1, 2), cases), None), ((2, (0, 2), cases), None), ((2, (0,), cases), ("cover", ("spot", 2))),
                ((2, [0, 1], cases), ("cover", ("form",))),
                ((3, (0, 1), cases), ("many",)), ((2, (0, 1, 2), cases), ("many",)),
                ((3, (0, 1, 2), cases), ("cases", ("hidden", (0,)))),
                ((0, (0, 1), ()), ("many",)), ((1, (0, 1), None), ("many",)),
                ((2, (0, 1), None), ("cases", ("form", ()))),
                ((2, (0, 1), ()), ("cases", ("form", ()))), ((2, (0, 1), ("hidden", (0,))), ("cases", ("hidden", ()))),
                ((2, (0, 1), ("split", 0, ())), ("cases", ("split", ()))), ((10 ** 59, (0, 1), cases), ("many",)),
                ((9, (0,), None), ("cover", ("spot", 2)))]:
            self.assertEqual(judge_verdict(RING, value), expected, value)
        for choice in (NOTHING, NO_SPOTS):
            for value, expected in [((0, (), ()), None), ((0, (), ("hidden", ())), ("form",)), ((0, (), []), ("form",)),
                                    ((0, (), None), ("form",)),
                                    ((1, (), ("hidden", ())), ("many",)), ((0, [], ()), ("cover", ("form",))),
                                    ((0, (), 0), ("form",))]:
                self.assertEqual(judge_verdict(choice, value), expected)
        self.assertEqual([judge_verdict(DARK, (1, (0,), ("hidden", (0,)))), judge_verdict(DARK, (0, (), ()))],
                         [("cover", ("spot", 1)), ("cover", ("spot", 0))])
        # One camera more than it takes is a cover, but there are no cases for one less.
        self.assertEqual(judge_verdict(NO_SPOTS, (1, (0,), ("hidden", (0,)))), ("cases", ("hidden", ())))

    def test_judge_verdict_form(self):
        k, cover, cases = verdict(RING)
        for value in NONE_AT_ALL + [
                nested(30), [k, cover, cases], (k, cover), (k, cover, cases, ()), (True, cover, cases), (False, (), ()),
                (-1, cover, cases), ("2", cover, cases),
                (None, cover, cases), ((2,), cover, cases), (cover, k, cases), ([2], cover, cases)]:
            if value != (1, 2, 3):
                self.assertEqual(judge_verdict(RING, value), ("form",), value)
        self.assertEqual(judge_verdict(RING, (1, 2, 3)), ("cover", ("form",)))

    def test_any_verdicts(self):
        rng = dice(7)
        for _ in range(60):
            choice = some_choice(rng, rng.randint(0, 7), rng.randint(0, 9), rng.choice((0.2, 0.4)))
            told = verdict(choice)
            self.assertIs(told is None, unseen(choice) != ())
            self.assertTrue(told is None or judge_verdict(choice, told) is None)


class Ridges(unittest.TestCase):
    def test_right_ends(self):
        watched = grounds("2:1/2 0:1 2:1/2 0:0")
        self.assertEqual(right_ends(RIDGE, (3, 1), watched), places("5 6"))
        self.assertEqual([right_ends(RIDGE, (3, 1), ()), right_ends(RIDGE, (3, 1), grounds("0:1"))], [(), places("5")])

    def test_ends_are_told_by_worth(self):
        # 3/2 is less than 5/3 and than 2, though not by Python's order.
        ridge = spots("0,8 1,0 3/2,8 2,0 3,8 4,0 5,8")
        found = right_ends(ridge, (9, 1), grounds("0:1 2:1 4:1 0:1"))
        self.assertEqual(found, tuple(sorted(found, key=exact)))
        ends = {reach(ridge, (9, 1), g)[1] for g in grounds("0:1 2:1 4:1")}
        self.assertEqual([len(found), found], [3, tuple(sorted(ends, key=exact))])

    def test_no_gap(self):
        rng = dice(8)
        many = 0
        for _ in range(80):
            ridge, h = some_case(rng, rng.randint(2, 14))
            if rng.random() < 0.5:
                ridge, h = some_teeth(rng, 14), told(Fraction(rng.randint(39, 41), 2))
            watched = tuple((rng.randrange(len(ridge) - 1),
                             rng.choice(places("0 0 1/5 1/2 2/3 1 1"))) for _ in range(rng.randint(0, 12)))
            ends = right_ends(ridge, h, watched)
            self.assertEqual(ends, tuple(sorted({reach(ridge, h, g)[1] for g in watched}, key=exact)))
            drones = list(ends) + list(some_drones(rng, ridge, rng.randint(0, 3)))
            rng.shuffle(drones)
            choice = choice_of_ridge(ridge, h, tuple(drones), watched)
            self.assertEqual([unseen(choice), gap(choice)], [(), 0])
            many += len(most_hidden(choice)) > 2
        self.assertGreater(many, 3)

    def test_no_gap_in_combs(self):
        ridge, h = combs(4)
        watched = grounds("0:1 3:1 6:1 9:1 3:1 0:1/2")
        ends = right_ends(ridge, h, watched)
        self.assertEqual([len(ends), ends], [5, tuple(sorted(ends, key=exact))])
        choice = choice_of_ridge(ridge, h, ends[::-1] + ends, watched)
        self.assertEqual([len(fewest_cameras(choice)), most_hidden(choice), gap(choice)], [4, (0, 1, 2, 3), 0])


if __name__ == "__main__":
    unittest.main()
