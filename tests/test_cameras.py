"""Promises 10.5 to 10.7."""

import unittest
from fractions import Fraction
from itertools import combinations, permutations, product

from helpers import (
    NONE_AT_ALL, all_cuts, comb_by_words, dice, is_in_by_words, nested, numbers, sees_by_words, some_room,
    some_spots_in, spot, spot_told, spots,
)
from ridgewatch.cameras import cameras, colours, comb, covers, fewest_covering, judge_colours, seeing_tip, tips
from ridgewatch.kernels import kernel
from ridgewatch.rooms import home, is_in, is_room, place_in
from ridgewatch.sides import clipped, form_area, inner_sides, lies_in_form
from ridgewatch.triangles import judge_cut, triangles
from ridgewatch.views import sees_in

ELL = spots("0,0 2,0 2,1 1,1 1,2 0,2")
HEXAGON = spots("0,1 1,0 3,0 4,1 3,2 1,2")
ONE = ((0, 1, 2),)
CUT = ((0, 1, 2), (0, 2, 3), (0, 3, 5), (3, 4, 5))
FAN = ((0, 1, 2), (0, 2, 3), (0, 3, 4), (0, 4, 5))
LAST_FAN = ((0, 1, 5), (1, 2, 5), (2, 3, 5), (3, 4, 5))
STAR = ((0, 1, 2), (0, 2, 4), (0, 4, 5), (2, 3, 4))


def all_colours(cut):
    """All tuples of colours in which the corners of each triangle are unlike."""
    return [given for given in product(range(3), repeat=len(cut) + 2)
            if all(len({given[i] for i in triple}) == 3 for triple in cut)]


def covers_by_words(cut, corners):
    """Whether each triangle has a corner among these."""
    return all(set(triple) & set(corners) for triple in cut)


def cuts(seed, many, corners):
    """Rooms, their points, and their cuts."""
    rng = dice(seed)
    for _ in range(many):
        room = some_room(rng, rng.randint(3, corners))
        yield rng, room, numbers(room), all_cuts(numbers(room))


class Colours(unittest.TestCase):
    def test_one_triangle(self):
        self.assertEqual(colours(ONE), (0, 1, 2))

    def test_fans(self):
        self.assertEqual([colours(FAN), colours(LAST_FAN)], [(0, 1, 2, 1, 2, 1), (0, 1, 0, 1, 0, 2)])
        self.assertEqual([colours(FAN[:2]), colours(FAN[:3])], [(0, 1, 2, 1), (0, 1, 2, 1, 2)])
        self.assertEqual([colours(((0, 1, 3), (1, 2, 3))), colours(STAR)], [(0, 1, 0, 2), (0, 1, 2, 0, 1, 2)])

    def test_cuts_by_other_ears(self):
        self.assertEqual(triangles(ELL), CUT)
        self.assertEqual(colours(CUT), (0, 1, 2, 1, 0, 2))
        other = ((0, 1, 3), (0, 3, 4), (0, 4, 5), (1, 2, 3))
        self.assertIsNone(judge_cut(ELL, other))
        self.assertEqual(colours(other), (0, 1, 0, 2, 1, 2))
        self.assertIsNone(judge_cut(HEXAGON, STAR))

    def test_triangles_that_are_reached_late(self):
        # Each further triangle is next only to the one behind it.
        turned = ((0, 1, 7), (1, 2, 6), (1, 6, 7), (2, 3, 5), (2, 5, 6), (3, 4, 5))
        self.assertEqual(colours(turned), (0, 1, 2, 0, 2, 1, 0, 2))
        self.assertEqual(all_colours(turned).count(colours(turned)), 1)

    def test_just_one(self):
        for rng, room, _, some in cuts(1, 12, 7):
            for cut in some[:6]:
                found = [given for given in all_colours(cut) if tuple(given[i] for i in cut[0]) == (0, 1, 2)]
                self.assertEqual([colours(cut)], found)
                self.assertEqual([len(all_colours(cut)), judge_colours(cut, colours(cut))], [6, None])

    def test_greater_rooms(self):
        for rng, room, _, some in cuts(2, 12, 12):
            for cut in [triangles(room), rng.choice(some)]:
                found = colours(cut)
                self.assertEqual([len(found), [found[i] for i in cut[0]]], [len(room), [0, 1, 2]])
                for triple in cut:
                    self.assertEqual({found[i] for i in triple}, {0, 1, 2})


class JudgeColours(unittest.TestCase):
    def test_form(self):
        right = (0, 1, 2, 1, 0, 2)
        for value in NONE_AT_ALL + [
                nested(30), list(right), right[:5], right + (0,), (0, 1, 2, 1, 0, 3), (0, 1, 2, 1, 0, -1),
                (False, 1, 2, 1, 0, 2), (0, True, 2, 1, 0, 2), (0, 1, 2, 1, 0, "2"), (0, 1, 2, 1, 0, None),
                (0, 1, 2, 1, 0, (2,)), (0, 1, 2, 1, 0, [2]), (0, 1, 2, 1, 0, (2, 1)), (0, 1, 2, 1, 0, 10 ** 59),
                right + right,
                "012102", {0: 0, 1: 1, 2: 2, 3: 1, 4: 0, 5: 2}]:
            self.assertEqual(judge_colours(CUT, value), ("form",), value)
        self.assertEqual(judge_colours(ONE, (1, 2)), ("form",))
        self.assertEqual(judge_colours(ONE, (0, 1, 2, 0)), ("form",))

    def test_any_colours_do(self):
        for given in permutations(range(3)):
            self.assertIsNone(judge_colours(ONE, given))
            self.assertIsNone(judge_colours(CUT, tuple(given[k] for k in colours(CUT))))

    def test_alike(self):
        for value, k in [((0, 1, 2, 1, 0, 0), 2), ((0, 0, 2, 1, 0, 2), 0), ((0, 1, 1, 1, 0, 2), 0),
                         ((0, 1, 0, 1, 0, 2), 0),
                         ((0, 1, 2, 2, 0, 2), 1), ((0, 1, 2, 1, 1, 2), 3), ((0, 1, 2, 1, 2, 2), 3), ((0,) * 6, 0)]:
            self.assertEqual(judge_colours(CUT, value), ("alike", k), value)

    def test_all_of_a_cut(self):
        for value in product(range(3), repeat=6):
            bad = [k for k, triple in enumerate(STAR) if len({value[i] for i in triple}) < 3]
            self.assertEqual(judge_colours(STAR, value), ("alike", bad[0]) if bad else None)


class Covers(unittest.TestCase):
    def test_covers(self):
        for corners, outcome in [((), False), ((0,), False), ((3,), False), ((0, 3), True), ((3, 0), True),
                                 ((4, 1), False),
                                 ((4, 0, 4), True), ((5, 2), True), ((2, 5, 2, 5), True), ((1, 1), False),
                                 ((5, 4, 3, 2, 1, 0), True)]:
            self.assertIs(covers(CUT, corners), outcome, corners)
        self.assertEqual([covers(ONE, ()), covers(ONE, (1,)), covers(FAN, (0,)), covers(FAN, (1, 3, 5))],
                         [False, True, True, True])

    def test_by_the_words(self):
        for rng, room, points, some in cuts(3, 25, 9):
            cut = rng.choice(some)
            for _ in range(8):
                corners = tuple(rng.choices(range(len(room)), k=rng.randint(0, 5)))
                self.assertIs(covers(cut, corners), covers_by_words(cut, corners))
                if covers(cut, corners):
                    for p in rng.sample(some_spots_in(rng, points), 4):
                        self.assertTrue(any(sees_by_words(points, points[i], p) for i in corners))


class Cameras(unittest.TestCase):
    def test_cameras(self):
        self.assertEqual([cameras(ELL), cameras(ELL[:3]), cameras(HEXAGON)], [(0, 4), (0,), (5,)])
        self.assertEqual([colours(triangles(HEXAGON)), triangles(HEXAGON)], [(0, 1, 0, 1, 0, 2), LAST_FAN])

    def test_two_colours_with_as_few(self):
        # Of four corners two colours have one each.
        square = spots("0,0 1,0 1,1 0,1")
        self.assertEqual([colours(triangles(square)), cameras(square)], [(0, 1, 0, 2), (1,)])
        five = spots("0,0 2,0 3,1 1,3 -1,1")
        self.assertEqual([colours(triangles(five)), cameras(five)], [(0, 1, 0, 1, 2), (4,)])

    def test_by_the_words(self):
        alike = 0
        for rng, room, points, _ in cuts(4, 60, 12):
            given = colours(triangles(room))
            rare = min(range(3), key=lambda colour: (given.count(colour), colour))
            alike += sorted(given.count(k) for k in range(3))[1] == given.count(rare)
            found = cameras(room)
            self.assertEqual(found, tuple(i for i, k in enumerate(given) if k == rare))
            self.assertIs(covers(triangles(room), found), True)
            self.assertLessEqual(len(found), len(room) // 3)
            for p in some_spots_in(rng, points)[:12]:
                self.assertTrue(any(sees_by_words(points, points[i], p) for i in found))
        self.assertGreater(alike, 5)


class FewestCovering(unittest.TestCase):
    def test_fewest_covering(self):
        self.assertEqual([fewest_covering(cut) for cut in (ONE, CUT, FAN, LAST_FAN, STAR)],
                         [(0,), (0, 3), (0,), (5,), (0, 2)])
        self.assertEqual(fewest_covering(((0, 1, 3), (1, 2, 3))), (1,))

    def test_by_the_words(self):
        for rng, room, _, some in cuts(5, 40, 12):
            for cut in (triangles(room), rng.choice(some)):
                found = fewest_covering(cut)
                least = [some for many in range(len(room) + 1) for some in combinations(range(len(room)), many)
                         if covers_by_words(cut, some)][0]
                self.assertEqual(found, least)
                self.assertLessEqual(len(found), len(room) // 3)

    def test_combs(self):
        for k in range(1, 5):
            self.assertEqual(len(fewest_covering(triangles(comb(k)))), k)


class Combs(unittest.TestCase):
    def test_comb(self):
        self.assertEqual(comb(1), spots("0,-1 2,-1 1,3"))
        self.assertEqual(comb(2), spots("0,-1 5,-1 4,3 3,0 2,0 1,3"))
        self.assertEqual(comb(3), spots("0,-1 8,-1 7,3 6,0 5,0 4,3 3,0 2,0 1,3"))
        for k in range(1, 13):
            self.assertEqual([comb(k), is_room(comb(k)), len(comb(k))], [comb_by_words(k), True, 3 * k])

    def test_tips(self):
        self.assertEqual([tips(1), tips(3)], [spots("1,3"), spots("1,3 4,3 7,3")])
        for k in range(1, 13):
            self.assertEqual(tips(k), tuple(corner for corner in reversed(comb(k)) if corner[1] == (3, 1)))

    def test_a_third_of_the_corners(self):
        for k in range(1, 6):
            self.assertEqual(len(cameras(comb(k))), k)

    def test_seeing_tip(self):
        self.assertEqual(seeing_tip(1, 0), spots("0,-1 2,-1 1,3"))
        self.assertEqual([seeing_tip(2, 0), seeing_tip(2, 1)], [spots("0,-1 7/3,-1 1,3"), spots("8/3,-1 5,-1 4,3")])
        self.assertEqual([seeing_tip(3, j) for j in range(3)],
                         [spots("0,-1 7/3,-1 1,3"), spots("8/3,-1 16/3,-1 4,3"), spots("17/3,-1 8,-1 7,3")])
        self.assertEqual(seeing_tip(12, 11), spots("98/3,-1 35,-1 34,3"))

    def test_forms(self):
        # Told as forms are: what is clipped by a side on which all of it is stays as it is.
        for k in range(1, 6):
            for j in range(k):
                form = seeing_tip(k, j)
                self.assertEqual([home(form), is_room(form), kernel(form)], [form, True, form])
                for side in inner_sides(comb(k))[:1]:
                    self.assertEqual(clipped(form, side), form)

    def test_from_where_a_tip_is_seen(self):
        for k in range(1, 5):
            room, points = comb(k), numbers(comb(k))
            grid = [(Fraction(x, 3), Fraction(y, 2)) for x in range(9 * k - 2) for y in range(-2, 7)]
            grid = [spot_told(p) for p in grid if is_in_by_words(points, p)] + [corner for form in (
                seeing_tip(k, j) for j in range(k)) for corner in form]
            for p in grid:
                seen = [j for j in range(k) if sees_in(room, p, tips(k)[j])]
                self.assertEqual([j for j in range(k) if lies_in_form(seeing_tip(k, j), p)], seen, (k, p))
                # No spot sees two tips.
                self.assertLessEqual(len(seen), 1)

    def test_no_two_forms_meet(self):
        for k in range(2, 13):
            forms = [seeing_tip(k, j) for j in range(k)]
            for one, other in zip(forms, forms[1:]):
                # They stand on the floor beside one another, each between straight lines that lean away from the other.
                both = one
                for side in inner_sides(other):
                    both = clipped(both, side)
                self.assertEqual(both, ())
            for j, form in enumerate(forms):
                self.assertEqual(form[2], tips(k)[j])
                for corner in form:
                    self.assertIs(is_in(comb(k), corner), True)
                self.assertGreater(form_area(form)[0], 0)
                self.assertEqual(place_in(comb(k), form[2])[0], "corner")

    def test_outside_and_beside(self):
        self.assertIs(lies_in_form(seeing_tip(2, 0), spot("5/2,-1")), False)
        self.assertIs(sees_in(comb(2), spot("5/2,-1"), tips(2)[0]), False)
        self.assertIs(sees_in(comb(2), spot("7/3,-1"), tips(2)[0]), True)


if __name__ == "__main__":
    unittest.main()
