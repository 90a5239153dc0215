"""Promises 6.1 to 6.6."""

import unittest
from fractions import Fraction

from helpers import (
    dark_by_words, dice, ends_by_words, exact, frac, parts, pieces_by_words, places, some_case, some_drones, some_parts,
    spots, told, whole,
)
from ridgewatch.drones import cover
from ridgewatch.ground import (
    alone_parts, best_place, dark_parts, dark_width, dark_within, gain_at, greedy_drones, layers, needless, seen_parts,
    sees_all, share_seen, stretch_of, thinned, watchers, width_of,
)
from ridgewatch.sight import sees
from ridgewatch.slopes import seen_part, slope_reach

HILL = spots("0,0 2,2 4,0")
TWO = spots("0,4 1,0 2,4 6,4 7,0 8,4")
PIT = spots("0,3 1,0 2,4 9,4")
HILLS = spots("-6,4 -3,4 -2,0 2,0 3,4 6,4")
FIVE = (5, 1)


def layers_by_words(ridge, h, drones):
    """What 6.2 tells."""
    found = []
    for i in range(len(ridge) - 1):
        for a, b, lot in pieces_by_words(ridge, exact(h), i, [exact(x) for x in drones]):
            found.append((i, told(a), told(b), lot))
    return tuple(found)


def put_together(rows):
    """Parts that lie in order, those of one slope that meet put together."""
    found = []
    for i, a, b in rows:
        if found and found[-1][0] == i and found[-1][2] == a:
            found[-1] = (i, found[-1][1], b)
        else:
            found.append((i, a, b))
    return tuple(found)


def width_by_words(ridge, rows):
    """What 6.3 tells, by Python's own numbers."""
    return sum((exact(b) - exact(a)) * (exact(ridge[i + 1][0]) - exact(ridge[i][0])) for i, a, b in rows)


def cases(seed, many, most=4, corners=9):
    """Ridges, heights and drones, some of them at the ends of what a spot is seen from."""
    rng = dice(seed)
    for _ in range(many):
        ridge, h = some_case(rng, rng.randint(2, corners))
        ends = [end for i in range(len(ridge) - 1) for t in ((0, 1), (1, 2), (1, 1)) for end in slope_reach(ridge, h, i, t)]
        yield rng, ridge, h, some_drones(rng, ridge, rng.randint(0, most), rng.choice((ends, cover(ridge, h))))


class Dark(unittest.TestCase):
    def test_no_drones(self):
        for ridge, h in ((HILL, (3, 1)), (TWO, FIVE)):
            self.assertEqual([dark_parts(ridge, h, ()), seen_parts(ridge, h, ()), sees_all(ridge, h, ())],
                             [whole(ridge), (), False])
        self.assertEqual(dark_within(TWO, FIVE, (), parts("0:0:1/2 3:1/3:1")), parts("0:0:1/2 3:1/3:1"))

    def test_one_drone(self):
        self.assertEqual(dark_parts(TWO, FIVE, places("9/4")), parts("3:0:1 4:0:7/8"))
        self.assertEqual(seen_parts(TWO, FIVE, places("9/4")), parts("0:0:1 1:0:1 2:0:1 4:7/8:1"))
        self.assertEqual(dark_parts(HILL, (3, 1), places("3")), ())
        self.assertIs(sees_all(HILL, (3, 1), places("3")), True)
        self.assertIs(sees_all(HILL, (3, 1), places("4")), False)

    def test_several_drones(self):
        self.assertEqual(dark_parts(TWO, FIVE, places("2 6")), ())
        self.assertIs(sees_all(TWO, FIVE, places("2 6")), True)
        self.assertEqual(dark_parts(TWO, FIVE, places("0 9/4")), parts("3:0:1 4:0:7/8"))
        self.assertEqual(dark_parts(HILLS, FIVE, places("-4 4")), parts("2:1/4:3/4"))
        self.assertEqual(dark_parts(HILLS, FIVE, places("-4 -15/4 4")), parts("2:1/4:1/2"))

    def test_parts_that_meet_in_one_spot_are_one(self):
        right, left = slope_reach(HILLS, FIVE, 2, (1, 2))
        self.assertEqual([seen_part(HILLS, FIVE, 2, x) for x in (right, left)], [((1, 2), (1, 1)), ((0, 1), (1, 2))])
        drones = (right, left)
        self.assertEqual(seen_parts(HILLS, FIVE, drones), parts("0:0:1 1:0:1 2:0:1 3:0:1 4:0:1"))
        self.assertEqual(dark_parts(HILLS, FIVE, drones), ())
        self.assertEqual(layers(HILLS, FIVE, drones)[2:4], ((2, (0, 1), (1, 2), (1,)), (2, (1, 2), (1, 1), (0,))))

    def test_single_spots_at_ends_are_no_parts(self):
        four = places("4")
        self.assertEqual(seen_part(PIT, FIVE, 0, (4, 1)), ((0, 1), (0, 1)))
        self.assertEqual(dark_parts(PIT, FIVE, four), parts("0:0:1 1:0:1"))
        self.assertEqual(seen_parts(PIT, FIVE, four), parts("2:0:1"))
        self.assertEqual(layers(PIT, FIVE, four),
                         ((0, (0, 1), (1, 1), ()), (1, (0, 1), (1, 1), ()), (2, (0, 1), (1, 1), (0,))))

    def test_by_the_words(self):
        kinds = {}
        for rng, ridge, h, drones in cases(1, 250):
            expected = layers_by_words(ridge, h, drones)
            self.assertEqual(dark_parts(ridge, h, drones), tuple(row[:3] for row in expected if not row[3]))
            self.assertEqual(seen_parts(ridge, h, drones), put_together([row[:3] for row in expected if row[3]]))
            self.assertIs(sees_all(ridge, h, drones), all(row[3] for row in expected))
            some = some_parts(rng, ridge, 6)
            found = dark_within(ridge, h, drones, some)
            self.assertEqual(found, dark_by_words(ridge, h, drones, some))
            self.assertEqual(dark_within(ridge, h, drones, whole(ridge)), dark_parts(ridge, h, drones))
            kinds[len(found)] = kinds.get(len(found), 0) + 1
        self.assertTrue(all(kinds.get(k, 0) > 2 for k in (0, 1, 2, 3)), kinds)

    def test_within_parts_that_touch_or_lie_over_one_another(self):
        x = places("9/4")
        self.assertEqual(dark_within(TWO, FIVE, x, parts("3:0:1/2 3:1/2:1")), parts("3:0:1/2 3:1/2:1"))
        self.assertEqual(dark_within(TWO, FIVE, x, parts("3:0:2/3 3:1/2:1")), parts("3:0:2/3 3:1/2:1"))
        self.assertEqual(dark_within(TWO, FIVE, x, parts("4:1/2:9/10 4:1/2:1")), parts("4:1/2:7/8"))
        self.assertEqual(dark_within(TWO, FIVE, x, parts("4:0:1 4:1/2:1 4:3/4:7/8")), parts("4:0:7/8 4:1/2:7/8 4:3/4:7/8"))
        self.assertEqual(dark_within(TWO, FIVE, x, parts("4:7/8:1 4:9/10:1")), ())
        self.assertEqual(dark_within(TWO, FIVE, x, parts("2:0:1 4:1/2:1")), parts("4:1/2:7/8"))
        self.assertEqual(dark_within(TWO, FIVE, x, ()), ())
        self.assertEqual(dark_within(HILLS, FIVE, places("-4 4"), parts("2:0:1/2 2:0:1 2:1/3:2/3")),
                         parts("2:1/4:1/2 2:1/4:3/4 2:1/3:2/3"))

    def test_ascending_by_worth(self):
        self.assertEqual(dark_within(TWO, FIVE, (), parts("3:1/10:1/9 3:1/10:1/2 3:2/5:1/2")),
                         parts("3:1/10:1/9 3:1/10:1/2 3:2/5:1/2"))
        one = spots("0,9 1,0 2,0 6,0 7,9 8,9")
        for h in (frac("91/10"), frac("12")):
            for drones in (places("0 1/2 8"), places("1/8 7"), places("0 8")):
                some = parts("2:0:2/3 2:0:1 2:1/5:1/2 2:1/10:3/4 3:0:1")
                self.assertEqual(dark_within(one, h, drones, some), dark_by_words(one, h, drones, some))


class Layers(unittest.TestCase):
    def test_layers(self):
        self.assertEqual(layers(HILL, (3, 1), places("0 2")), ((0, (0, 1), (1, 1), (0, 1)), (1, (0, 1), (1, 1), (1,))))
        self.assertEqual(layers(HILLS, FIVE, places("-4 0 4"))[2:5],
                         ((2, (0, 1), (1, 4), (1, 2)), (2, (1, 4), (3, 4), (1,)), (2, (3, 4), (1, 1), (0, 1))))
        self.assertEqual(layers(HILLS, FIVE, places("-4 4"))[2:5],
                         ((2, (0, 1), (1, 4), (1,)), (2, (1, 4), (3, 4), ()), (2, (3, 4), (1, 1), (0,))))
        self.assertEqual(layers(HILL, (3, 1), ()), ((0, (0, 1), (1, 1), ()), (1, (0, 1), (1, 1), ())))

    def test_by_the_words(self):
        several = 0
        for _, ridge, h, drones in cases(2, 200, 6):
            found = layers(ridge, h, drones)
            self.assertEqual(found, layers_by_words(ridge, h, drones))
            several += len(found) > len(ridge) + 1
        self.assertGreater(several, 5)


class Watchers(unittest.TestCase):
    def test_at_corners(self):
        drones = places("0 2")
        self.assertEqual([watchers(HILL, (3, 1), drones, g) for g in ((0, (1, 1)), (1, (0, 1)), (1, (1, 1)), (0, (0, 1)))],
                         [(0, 1), (0, 1), (1,), (0, 1)])
        self.assertEqual(watchers(HILL, (3, 1), places("0 2 4"), (1, (1, 2))), (1, 2))
        # The peak of a slope is seen from beyond the slope's own line.
        self.assertEqual([slope_reach(HILL, (3, 1), 1, (0, 1))[0], watchers(HILL, (3, 1), places("0 1/2"), (1, (0, 1)))],
                         [(1, 1), (0, 1)])
        self.assertEqual(watchers(TWO, FIVE, (), (0, (1, 2))), ())

    def test_by_the_words(self):
        for rng, ridge, h, drones in cases(3, 100, 6):
            for _ in range(5):
                g = (rng.randrange(len(ridge) - 1), rng.choice(places("0 1 1/2 1/3 3/4")))
                self.assertEqual(watchers(ridge, h, drones, g), tuple(k for k, x in enumerate(drones) if sees(ridge, h, x, g)))

    def test_just_at_the_ends_of_the_reach(self):
        self.assertEqual(watchers(TWO, FIVE, places("0 9/4 5/2"), (0, (1, 1))), (0, 1))
        self.assertEqual(watchers(TWO, FIVE, places("11/2 23/4 8"), (4, (0, 1))), (1, 2))


class Widths(unittest.TestCase):
    def test_width_of(self):
        self.assertEqual(width_of(TWO, parts("2:0:1/2")), (2, 1))
        self.assertEqual(width_of(TWO, parts("2:1/4:1/2 0:0:1 4:1/3:2/3")), (7, 3))
        self.assertEqual(width_of(TWO, ()), (0, 1))
        self.assertEqual(width_of(TWO, whole(TWO)), (8, 1))

    def test_dark_width_and_share_seen(self):
        self.assertEqual([dark_width(TWO, FIVE, places(x)) for x in ("", "9/4", "2 6")], [(8, 1), (15, 8), (0, 1)])
        self.assertEqual([share_seen(TWO, FIVE, places(x)) for x in ("", "9/4", "2 6")], [(0, 1), (49, 64), (1, 1)])

    def test_by_the_words(self):
        for rng, ridge, h, drones in cases(4, 80):
            dark = width_by_words(ridge, dark_by_words(ridge, h, drones, whole(ridge)))
            self.assertEqual(dark_width(ridge, h, drones), told(dark))
            length = exact(ridge[-1][0]) - exact(ridge[0][0])
            self.assertEqual(share_seen(ridge, h, drones), told(1 - dark / length))
            some = dark_parts(ridge, h, drones)
            self.assertEqual(width_of(ridge, some), told(width_by_words(ridge, some)))


def left_out(drones, k):
    """The drones without number k."""
    return drones[:k] + drones[k + 1:]


class NotNeeded(unittest.TestCase):
    def test_two_that_see_the_same(self):
        both = places("2 3")
        self.assertEqual([needless(HILL, (3, 1), both), thinned(HILL, (3, 1), both)], [(0, 1), places("3")])
        self.assertEqual([needless(HILL, (3, 1), places("0 2")), thinned(HILL, (3, 1), places("0 2 3"))], [(0,), places("3")])

    def test_few(self):
        self.assertEqual([needless(HILL, (3, 1), ()), thinned(HILL, (3, 1), ())], [(), ()])
        self.assertEqual([needless(HILL, (3, 1), places("0")), thinned(HILL, (3, 1), places("0"))], [(), places("0")])
        self.assertEqual(thinned(HILL, (3, 1), places("0 1 4")), places("1"))
        self.assertEqual(needless(HILL, (3, 1), places("0 1 4")), (0, 1, 2))
        self.assertEqual(needless(TWO, FIVE, places("0 2 4 6 8")), (0, 1, 2, 3, 4))
        self.assertEqual(thinned(TWO, FIVE, places("0 2 4 6 8")), places("2 8"))

    def test_a_corner_alone_is_not_looked_at(self):
        drones = places("4 9")
        self.assertEqual([watchers(PIT, FIVE, drones, (0, (0, 1))), seen_part(PIT, FIVE, 0, (4, 1))], [(0,), ((0, 1), (0, 1))])
        self.assertEqual([needless(PIT, FIVE, drones), thinned(PIT, FIVE, drones)], [(0, 1), places("9")])
        self.assertEqual([alone_parts(PIT, FIVE, drones, 0), stretch_of(PIT, FIVE, drones, 0)], [(), places("0 9")])

    def test_by_the_words(self):
        less = 0
        for _, ridge, h, drones in cases(5, 150, 7):
            dark = dark_by_words(ridge, h, drones, whole(ridge))
            expected = tuple(k for k in range(len(drones)) if dark_by_words(ridge, h, left_out(drones, k), whole(ridge)) == dark)
            self.assertEqual(needless(ridge, h, drones), expected)
            left = drones
            for x in drones:
                fewer = tuple(y for y in left if y != x)
                if dark_by_words(ridge, h, fewer, whole(ridge)) == dark:
                    left = fewer
            found = thinned(ridge, h, drones)
            self.assertEqual(found, left)
            self.assertEqual([needless(ridge, h, found), dark_parts(ridge, h, found)], [(), dark])
            less += len(drones) - len(found) > 1
        self.assertGreater(less, 5)


class RoomToMove(unittest.TestCase):
    def test_alone_parts(self):
        self.assertEqual(alone_parts(HILL, (3, 1), places("0 2"), 1), parts("1:0:1"))
        self.assertEqual(alone_parts(HILL, (3, 1), places("0 2"), 0), ())
        self.assertEqual(alone_parts(HILLS, FIVE, places("-4 4"), 0), parts("2:3/4:1 3:0:1"))
        self.assertEqual(alone_parts(HILLS, FIVE, places("-4 0 4"), 1), parts("2:1/4:3/4"))

    def test_stretch_of(self):
        self.assertEqual([stretch_of(HILL, (3, 1), places("0 2"), k) for k in (0, 1)], [places("0 4"), places("1 4")])
        self.assertEqual(stretch_of(HILLS, FIVE, places("-4 0 4"), 1),
                         (slope_reach(HILLS, FIVE, 2, (1, 4))[0], slope_reach(HILLS, FIVE, 2, (3, 4))[1]))
        self.assertEqual(stretch_of(TWO, FIVE, places("2 6"), 0), places("0 9/4"))
        self.assertEqual(stretch_of(TWO, FIVE, places("2 6"), 1), places("23/4 8"))

    def test_by_the_words(self):
        moved = 0
        for rng, ridge, h, drones in cases(6, 150, 5):
            for k in range(len(drones)):
                alone = tuple(row[:3] for row in layers_by_words(ridge, h, drones) if row[3] == (k,))
                self.assertEqual(alone_parts(ridge, h, drones, k), alone)
                low, high = stretch_of(ridge, h, drones, k)
                if not alone:
                    self.assertEqual((low, high), (ridge[0][0], ridge[-1][0]))
                    continue
                ends = [(ends_by_words(ridge, exact(h), i, exact(a))[0], ends_by_words(ridge, exact(h), i, exact(b))[1])
                        for i, a, b in alone]
                self.assertEqual((low, high), (told(max(end[0] for end in ends)), told(min(end[1] for end in ends))))
                moved += 1
        self.assertGreater(moved, 20)

    def test_just_the_places_of_the_stretch_keep_all_that_is_seen(self):
        tiny = Fraction(1, 10 ** 9)
        for _, ridge, h, drones in cases(7, 60, 3):
            seen = [row[:3] for row in layers(ridge, h, drones) if row[3]]
            start, end = exact(ridge[0][0]), exact(ridge[-1][0])
            for k in range(len(drones)):
                low, high = [exact(x) for x in stretch_of(ridge, h, drones, k)]
                for x in (low, high, (low + high) / 2, low - tiny, high + tiny, start, end):
                    if start <= x <= end:
                        others = left_out(drones, k) + (told(x),)
                        self.assertEqual(dark_within(ridge, h, others, tuple(seen)) == (), low <= x <= high)


class OneMore(unittest.TestCase):
    def test_gain_at(self):
        self.assertEqual([gain_at(HILL, (3, 1), places("0"), frac(x)) for x in ("0", "2", "1/2", "1", "4")],
                         [(0, 1), (2, 1), (0, 1), (2, 1), (2, 1)])
        self.assertEqual([gain_at(TWO, FIVE, places("9/4"), frac(x)) for x in ("9/4", "6", "8")],
                         [(0, 1), (15, 8), (15, 8)])
        self.assertEqual([gain_at(HILL, (3, 1), (), frac(x)) for x in ("0", "1", "2")], [(2, 1), (4, 1), (4, 1)])

    def test_best_place(self):
        self.assertEqual(best_place(HILL, (3, 1), (), places("0 2 1")), ((2, 1), (4, 1)))
        self.assertEqual(best_place(HILL, (3, 1), (), places("0 1 2")), ((1, 1), (4, 1)))
        self.assertEqual(best_place(HILL, (3, 1), places("1"), places("3 2 2")), ((3, 1), (0, 1)))
        self.assertEqual(best_place(HILL, (3, 1), places("0"), places("0")), ((0, 1), (0, 1)))
        self.assertEqual(best_place(TWO, FIVE, places("9/4"), places("2 8 6")), ((8, 1), (15, 8)))

    def test_greedy_drones(self):
        ends = places("0 4")
        self.assertEqual([greedy_drones(HILL, (3, 1), ends, k) for k in (0, 1, 2, 5)],
                         [(), places("0"), places("0 4"), places("0 4")])
        self.assertEqual(greedy_drones(HILL, (3, 1), places("4 0 0 4"), 4), places("4 0"))
        self.assertEqual(greedy_drones(HILL, (3, 1), places("0 2 2 1"), 3), places("2"))
        self.assertEqual(greedy_drones(TWO, FIVE, places("8 6 2 0"), 9), places("6 2"))

    def test_by_the_words(self):
        for rng, ridge, h, drones in cases(8, 80, 3):
            found = list(some_drones(rng, ridge, 6, cover(ridge, h)))
            found = found + [found[0], found[-1]]
            rng.shuffle(found)
            gains = []
            for x in found:
                more = width_by_words(ridge, dark_by_words(ridge, h, drones, whole(ridge)))
                gains.append(more - width_by_words(ridge, dark_by_words(ridge, h, drones + (x,), whole(ridge))))
                self.assertEqual(gain_at(ridge, h, drones, x), told(gains[-1]))
                if x in drones:
                    self.assertEqual(gains[-1], 0)
            k = gains.index(max(gains))
            self.assertEqual(best_place(ridge, h, drones, tuple(found)), (found[k], told(gains[k])))
            taken = ()
            for many in range(5):
                self.assertEqual(greedy_drones(ridge, h, tuple(found), many), taken[:many])
                x, gain = best_place(ridge, h, taken, tuple(found))
                if gain != (0, 1):
                    taken += (x,)

    def test_a_place_gains_never_more_with_more_drones_about(self):
        for rng, ridge, h, drones in cases(9, 40, 4):
            for x in some_drones(rng, ridge, 3):
                gains = [exact(gain_at(ridge, h, drones[:k], x)) for k in range(len(drones) + 1)]
                self.assertEqual(gains, sorted(gains, reverse=True))


if __name__ == "__main__":
    unittest.main()
