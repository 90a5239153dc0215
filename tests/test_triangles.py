"""Promises 10.1 to 10.4."""

import unittest
from itertools import combinations

from helpers import (
    NONE_AT_ALL, all_cuts, clipped_by_words, comb_by_words, dice, exact, inner_by_words, is_inner_by_words, lies_on,
    nested, numbers, rows_of, some_room, spots, turn,
)
from ridgewatch.rooms import area, begun_at, diagonals, is_room
from ridgewatch.triangles import ears, inner_ways, judge_cut, leaves_of, next_pairs, triangles, way_through

ELL = spots("0,0 2,0 2,1 1,1 1,2 0,2")
SQUARE = spots("0,0 1,0 1,1 0,1")
TRIANGLE = spots("0,0 3,0 0,2")
ARROW = spots("0,0 4,0 4,4 2,2 0,4")
CUT = ((0, 1, 2), (0, 2, 3), (0, 3, 5), (3, 4, 5))


def holds_by_words(a, b, c, p):
    """Whether p lies in the triangle, which goes against the clock, its sides with it."""
    return min(turn(a, b, p), turn(b, c, p), turn(c, a, p)) >= 0


def ears_by_words(points, left):
    """The numbers of the ears of what is left."""
    found = []
    for k, i in enumerate(left):
        before, after = left[k - 1], left[(k + 1) % len(left)]
        a, b, c = points[before], points[i], points[after]
        others = [points[j] for j in left if j not in (before, i, after)]
        if turn(a, b, c) > 0 and not any(holds_by_words(a, b, c, p) for p in others):
            found.append(i)
    return found


def cut_by_words(points):
    """What 10.2 tells of triangles."""
    left, found = list(range(len(points))), []
    while len(left) > 3:
        ear = min(ears_by_words(points, left))
        k = left.index(ear)
        found.append(tuple(sorted((left[k - 1], ear, left[(k + 1) % len(left)]))))
        left.remove(ear)
    return tuple(sorted(found + [tuple(left)]))


def area_of(points):
    """The area that points go round."""
    return sum(turn((0, 0), a, b) for a, b in rows_of(points)) / 2 if len(points) > 2 else 0


def fault_by_words(points, cut):
    """What 10.3 tells of judge_cut for an ascending tuple of triples."""
    many = len(points)
    if len(cut) != many - 2:
        return ("many", len(cut))
    for k, (i, j, m) in enumerate(cut):
        for a, b in ((i, j), (j, m), (i, m)):
            if (b - a) % many not in (1, many - 1) and not is_inner_by_words(points, a, b):
                return ("side", k)
    shapes = [[points[i] for i in triple] for triple in cut]
    for j in range(len(cut)):
        for k in range(j + 1, len(cut)):
            both = shapes[j]
            for side in inner_by_words(shapes[k]):
                both = clipped_by_words(both, side)
            if area_of(both) > 0:
                return ("meet", j, k)
    return None


def cases(seed, many, corners=9, size=4):
    """Rooms and their points in Python's own numbers."""
    rng = dice(seed)
    for _ in range(many):
        room = some_room(rng, rng.randint(3, corners), size)
        yield rng, room, numbers(room)


class InnerWays(unittest.TestCase):
    def test_inner_ways(self):
        self.assertEqual(inner_ways(ELL), ((0, 2), (0, 3), (0, 4), (1, 3), (3, 5)))
        self.assertEqual([inner_ways(TRIANGLE), inner_ways(SQUARE)], [(), ((0, 2), (1, 3))])

    def test_straight_on_behind_a_wall(self):
        self.assertEqual([inner_ways(ARROW), diagonals(ARROW)], [((0, 3), (1, 3)), ()])

    def test_touching_a_corner(self):
        # From corner 1 to corner 5 the way touches corner 2.
        step = spots("0,0 4,0 4,2 6,2 6,6 4,4 0,4")
        self.assertEqual(inner_ways(step), ((0, 2), (0, 5), (1, 6), (2, 4), (2, 5), (2, 6), (3, 5), (3, 6)))
        self.assertNotIn((1, 5), inner_ways(step))

    def test_by_the_words(self):
        more = 0
        for _, room, points in cases(1, 120, 11):
            expected = tuple(pair for pair in combinations(range(len(room)), 2) if is_inner_by_words(points, *pair))
            self.assertEqual(inner_ways(room), expected)
            more += len(expected) - len(diagonals(room))
        self.assertGreater(more, 10)


class Ears(unittest.TestCase):
    def test_ears(self):
        self.assertEqual([ears(ELL), ears(SQUARE), ears(TRIANGLE)], [(1, 2, 4, 5), (0, 1, 2, 3), (0, 1, 2)])
        self.assertEqual(ears(begun_at(ELL, 1)), (0, 1, 3, 4))

    def test_another_corner_upon_a_side(self):
        # The dent lies upon the way between both neighbours of corner 0.
        dent = spots("0,0 4,0 3,3 2,2 0,4")
        self.assertIs(is_room(dent), True)
        self.assertTrue(lies_on(*[numbers(dent)[k] for k in (1, 4, 3)]))
        self.assertEqual(ears(dent), (2, 4))
        self.assertEqual(triangles(dent), ((0, 1, 3), (0, 3, 4), (1, 2, 3)))
        # Moved a little, it is inside the triangle at corner 0 alone, or at corner 1 alone.
        self.assertEqual(ears(spots("0,0 4,0 3,3 19/10,2 0,4")), (1, 2, 4))
        self.assertEqual(ears(spots("0,0 4,0 3,3 21/10,2 0,4")), (0, 2, 4))

    def test_by_the_words(self):
        few = 0
        for _, room, points in cases(2, 150, 12):
            found = ears(room)
            self.assertEqual(found, tuple(ears_by_words(points, list(range(len(room))))))
            self.assertGreaterEqual(len(found), 2 + (len(room) == 3))
            few += len(found) < len(room) - 2
        self.assertGreater(few, 20)


class Triangles(unittest.TestCase):
    def test_triangles(self):
        self.assertEqual([triangles(ELL), triangles(SQUARE), triangles(TRIANGLE)], [CUT, ((0, 1, 3), (1, 2, 3)), ((0, 1, 2),)])
        self.assertEqual(triangles(ARROW), ((0, 1, 3), (0, 3, 4), (1, 2, 3)))
        self.assertEqual(triangles(comb_by_words(1)), ((0, 1, 2),))

    def test_what_is_left_may_go_straight_on(self):
        # With corner 0 cut off, corner 1 lies straight between 4 and 2.
        bend = spots("1,-1 2,0 4,0 2,4 0,0")
        self.assertEqual([is_room(bend), ears(bend)], [True, (0, 2, 4)])
        self.assertEqual(triangles(bend), ((0, 1, 4), (1, 2, 3), (1, 3, 4)))
        self.assertIsNone(judge_cut(bend, triangles(bend)))

    def test_by_the_words(self):
        for _, room, points in cases(3, 150, 13):
            cut = triangles(room)
            self.assertEqual(cut, cut_by_words(points))
            self.assertIsNone(judge_cut(room, cut))
            self.assertEqual(sum(area_of([points[i] for i in triple]) for triple in cut), exact(area(room)))

    def test_combs(self):
        for k in range(1, 5):
            cut = triangles(comb_by_words(k))
            self.assertEqual([len(cut), judge_cut(comb_by_words(k), cut), cut], [3 * k - 2, None, cut_by_words(numbers(comb_by_words(k)))])


class JudgeCut(unittest.TestCase):
    def test_form(self):
        for value in NONE_AT_ALL + [
                nested(30), list(CUT), CUT[::-1], CUT[:1] + CUT[:3], CUT[:3] + ((3, 4, 6),), CUT[:3] + ((3, 5, 4),),
                ((-1, 1, 2),) + CUT[1:], ((False, 1, 2),) + CUT[1:], ((0, True, 2),) + CUT[1:], ([0, 1, 2],) + CUT[1:],
                ((0, 1, 1),) + CUT[1:], ((0, 1),) + CUT[1:], ((0, 1, 2, 3),) + CUT[1:], ((0, 1, "2"),) + CUT[1:],
                ((2, 1, 0),) + CUT[1:], CUT + (None,), (0, 1, 2), ((0, 1, (2,)),), CUT + CUT[3:], ((0, 1, 10 ** 50),)]:
            self.assertEqual(judge_cut(ELL, value), ("many", 0) if value == () else ("form",), value)

    def test_many(self):
        self.assertEqual([judge_cut(ELL, CUT[:k]) for k in range(5)], [("many", 0), ("many", 1), ("many", 2), ("many", 3), None])
        self.assertEqual(judge_cut(ELL, CUT[:3] + ((1, 2, 3), (3, 4, 5))), ("many", 5))
        self.assertEqual(judge_cut(TRIANGLE, ()), ("many", 0))
        # Ahead of sides.
        self.assertEqual(judge_cut(ELL, ((0, 2, 4), (1, 2, 4))), ("many", 2))

    def test_side(self):
        for value, expected in [(((0, 1, 2), (0, 2, 5), (2, 3, 5), (3, 4, 5)), ("side", 1)),
                                (((0, 1, 4), (0, 2, 3), (0, 3, 5), (3, 4, 5)), ("side", 0)),
                                (((0, 1, 2), (0, 2, 3), (0, 3, 5), (2, 4, 5)), ("side", 3)),
                                (((0, 1, 2), (0, 1, 5), (0, 3, 5), (2, 4, 5)), ("side", 1)),
                                (((0, 1, 2), (0, 1, 3), (0, 2, 4), (1, 4, 5)), ("side", 2))]:
            self.assertEqual(judge_cut(ELL, value), expected)

    def test_meet(self):
        self.assertEqual(judge_cut(SQUARE, ((0, 1, 2), (0, 1, 3))), ("meet", 0, 1))
        for value, expected in [(((0, 1, 2), (0, 1, 3), (0, 3, 5), (3, 4, 5)), ("meet", 0, 1)),
                                (((0, 1, 2), (0, 2, 3), (0, 3, 4), (0, 3, 5)), ("meet", 2, 3)),
                                (((0, 1, 2), (0, 2, 3), (0, 3, 4), (1, 2, 3)), ("meet", 0, 3)),
                                (((0, 1, 3), (0, 2, 3), (0, 3, 4), (1, 2, 3)), ("meet", 0, 1)),
                                (((0, 1, 3), (0, 3, 4), (0, 4, 5), (1, 2, 3)), None),
                                (((0, 1, 3), (0, 3, 5), (1, 2, 3), (3, 4, 5)), None)]:
            self.assertEqual(judge_cut(ELL, value), expected)
        # One within the other, without a common corner of their own.
        hexagon = spots("0,1 1,0 3,0 4,1 3,2 1,2")
        self.assertEqual(judge_cut(hexagon, ((0, 1, 2), (0, 2, 3), (0, 2, 4), (0, 4, 5))), ("meet", 1, 2))
        self.assertEqual(judge_cut(hexagon, ((0, 1, 2), (0, 2, 4), (1, 3, 5), (2, 3, 4))), ("meet", 0, 2))
        self.assertEqual(judge_cut(hexagon, ((0, 1, 5), (0, 2, 4), (1, 3, 5), (2, 3, 4))), ("meet", 0, 1))

    def test_all_cuts_and_no_others(self):
        several = 0
        for _, room, points in cases(4, 40, 5):
            cuts = all_cuts(points)
            several += len(cuts) > 1
            found = [value for value in combinations(list(combinations(range(len(room)), 3)), len(room) - 2)
                     if judge_cut(room, value) is None]
            self.assertEqual(sorted(cuts), found)
            self.assertIn(triangles(room), found)
        self.assertGreater(several, 1)

    def test_by_the_words(self):
        kinds = {}
        for rng, room, points in cases(5, 100, 9):
            cuts = all_cuts(points)
            ways = sorted({triple for cut in cuts for triple in cut})
            for _ in range(8):
                cut = list(rng.choice(cuts))
                for _ in range(rng.randint(0, 2)):
                    cut[rng.randrange(len(cut))] = rng.choice(ways) if rng.random() < 0.7 else tuple(
                        sorted(rng.sample(range(len(room)), 3)))
                cut = tuple(sorted(set(cut)))
                fault = judge_cut(room, cut)
                self.assertEqual(fault, fault_by_words(points, cut))
                kinds[fault and fault[0]] = kinds.get(fault and fault[0], 0) + 1
        self.assertTrue(all(kinds.get(kind, 0) > 5 for kind in (None, "many", "side", "meet")), kinds)

    def test_inner_ways_of_a_cut(self):
        for _, room, points in cases(6, 30, 10):
            ways = {}
            for i, j, k in triangles(room):
                for pair in ((i, j), (j, k), (i, k)):
                    ways[pair] = ways.get(pair, 0) + 1
            inner = [pair for pair in ways if pair in inner_ways(room)]
            self.assertEqual([len(inner), [ways[pair] for pair in inner]], [len(room) - 3, [2] * (len(room) - 3)])


class Tree(unittest.TestCase):
    def test_next_pairs(self):
        self.assertEqual([next_pairs(CUT), next_pairs(CUT[:1]), next_pairs(CUT[:2])], [((0, 1), (1, 2), (2, 3)), (), ((0, 1),)])
        fan = ((0, 1, 2), (0, 2, 4), (0, 4, 5), (2, 3, 4))
        self.assertEqual(next_pairs(fan), ((0, 1), (1, 2), (1, 3)))

    def test_way_through(self):
        self.assertEqual([way_through(CUT, 0, 3), way_through(CUT, 3, 0), way_through(CUT, 1, 2), way_through(CUT, 2, 2)],
                         [(0, 1, 2, 3), (3, 2, 1, 0), (1, 2), (2,)])
        fan = ((0, 1, 2), (0, 2, 4), (0, 4, 5), (2, 3, 4))
        self.assertEqual([way_through(fan, *pair) for pair in ((0, 3), (3, 2), (0, 1), (2, 0), (1, 1))],
                         [(0, 1, 3), (3, 1, 2), (0, 1), (2, 1, 0), (1,)])
        self.assertEqual(way_through(((0, 1, 2),), 0, 0), (0,))

    def test_leaves_of(self):
        fan = ((0, 1, 2), (0, 2, 4), (0, 4, 5), (2, 3, 4))
        self.assertEqual([leaves_of(CUT), leaves_of(((0, 1, 2),)), leaves_of(CUT[:2]), leaves_of(fan)], [(0, 3), (0,), (0, 1), (0, 2, 3)])

    def test_combs(self):
        for k in range(1, 5):
            cut = triangles(comb_by_words(k))
            self.assertEqual(leaves_of(cut), tuple(j for j in range(len(cut)) if sum(j in pair for pair in next_pairs(cut)) <= 1))
            self.assertEqual(ears(comb_by_words(k)), tuple(range(2, 3 * k, 3)) if k > 1 else (0, 1, 2))
        self.assertEqual([leaves_of(triangles(comb_by_words(k))) for k in (1, 2, 3)], [(0,), (2, 3), (4, 5, 6)])
        self.assertEqual([way_through(triangles(comb_by_words(3)), 4, 5), way_through(triangles(comb_by_words(3)), 6, 5)], [(4, 3, 2, 1, 0, 5), (6, 2, 1, 0, 5)])

    def test_by_the_words(self):
        for rng, room, points in cases(7, 60, 12):
            for cut in (triangles(room), rng.choice(all_cuts(points))):
                many = len(cut)
                pairs = tuple((j, k) for j, k in combinations(range(many), 2) if len(set(cut[j]) & set(cut[k])) == 2)
                self.assertEqual([next_pairs(cut), len(pairs)], [pairs, many - 1])
                leaves = tuple(k for k in range(many) if sum(k in pair for pair in pairs) <= 1)
                self.assertEqual(leaves_of(cut), leaves)
                self.assertTrue(len(leaves) >= 2 or len(room) == 3)
                corners = ears(room)
                for k in leaves:
                    self.assertTrue(any(i in corners for i in cut[k]))
                for _ in range(6):
                    j, k = rng.randrange(many), rng.randrange(many)
                    found = way_through(cut, j, k)
                    self.assertEqual([found[0], found[-1], len(set(found))], [j, k, len(found)])
                    for one, other in zip(found, found[1:]):
                        self.assertIn((min(one, other), max(one, other)), pairs)


if __name__ == "__main__":
    unittest.main()
