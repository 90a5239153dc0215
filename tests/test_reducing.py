"""Promises 11.5 and 11.6 (gap stands with the choices)."""

import unittest
from itertools import combinations

from helpers import chosen_by_words, dice, some_choice, some_graph
from ridgewatch.choosing import fewest_cameras, spots_seen, unseen
from ridgewatch.reducing import easy_spots, fewest_for_each, most_seen, needed_cameras, smaller, spare_cameras

RING = (3, ((0, 1), (1, 2), (0, 2)))
ROW = (4, ((0, 1), (1, 2, 3), (3,), (0,)))
NOTHING = (0, ())


def spare_by_words(lots):
    """The spare ones of a dict of sets."""
    return {c for c in lots for d in lots if c != d and (lots[c] < lots[d] or (lots[c] == lots[d] and d < c))}


def easy_by_words(watchers):
    """The easy ones of a dict of sets."""
    return {j for j in watchers for i in watchers if i != j and watchers[i] and watchers[i] <= watchers[j]
            and (len(watchers[i]) < len(watchers[j]) or (len(watchers[i]) == len(watchers[j]) and i < j))}


def lots_and_watchers(choice, cameras, spots):
    """What these cameras see of these spots, and who sees these."""
    lots = {c: set(choice[1][c]) & set(spots) for c in cameras}
    return lots, {j: {c for c in cameras if j in lots[c]} for j in spots}


def smaller_by_words(choice):
    """What 11.5 tells of smaller, and how often something was left out."""
    cameras, spots, rounds = set(range(len(choice[1]))), set(range(choice[0])), 0
    while True:
        easy = easy_by_words(lots_and_watchers(choice, cameras, spots)[1])
        spots -= easy
        spare = spare_by_words(lots_and_watchers(choice, cameras, spots)[0])
        cameras -= spare
        if not easy and not spare:
            return (tuple(sorted(cameras)), tuple(sorted(spots))), rounds
        rounds += 1


def left_choice(choice, cameras, spots):
    """The choice of these cameras and spots alone, numbered anew."""
    return (len(spots), tuple(tuple(k for k, j in enumerate(spots) if j in choice[1][c]) for c in cameras))


def some_choices(seed, many):
    """Choices of all kinds."""
    rng = dice(seed)
    for _ in range(many):
        if rng.random() < 0.3:
            yield rng, some_graph(rng, rng.randint(3, 7), rng.randint(3, 10))
        else:
            yield rng, some_choice(rng, rng.randint(0, 7), rng.randint(0, 9), rng.choice((0.15, 0.3, 0.5, 0.8)))


class Spare(unittest.TestCase):
    def test_spare_cameras(self):
        for choice, expected in [(ROW, (2, 3)), (RING, ()), (NOTHING, ()), ((3, ((), ())), (1,)),
                                 ((2, ((), (0,))), (0,)), ((0, ((), (), ())), (1, 2)),
                                 ((2, ((0, 1), (0, 1), (0, 1))), (1, 2)), ((3, ((0,), (0, 1), (0, 1, 2))), (0, 1)),
                                 ((3, ((0, 1), (1,), (1, 2))), (1,)),
                                 ((3, ((1,), (0, 1), (1,))), (0, 2))]:
            self.assertEqual(spare_cameras(choice), expected, choice)

    def test_easy_spots(self):
        for choice, expected in [(ROW, (1, 3)), (RING, ()), (NOTHING, ()), ((3, ()), ()), ((3, ((0, 1, 2),)), (1, 2)),
                                 ((2, ((0, 1), (0, 1))), (1,)),
                                 ((3, ((0, 1), (1, 2), (1,))), (1,)), ((3, ((1, 2), (2,))), (2,)),
                                 # A spot that nobody sees is not easy, and makes none easy.
                                 ((3, ((1,), (1, 2))), (1,)), ((2, ((1,),)), ()),
                                 ((4, ((0,), (0, 2, 3), (2, 3))), (3,))]:
            self.assertEqual(easy_spots(choice), expected, choice)

    def test_chains(self):
        lots = tuple(tuple(range(k + 1)) for k in range(6))
        self.assertEqual([spare_cameras((6, lots)), easy_spots((6, lots))], [(0, 1, 2, 3, 4), (0, 1, 2, 3, 4)])
        self.assertEqual([spare_cameras((6, lots[::-1])), easy_spots((6, lots[::-1]))],
                         [(1, 2, 3, 4, 5), (0, 1, 2, 3, 4)])

    def test_by_the_words(self):
        for _, choice in some_choices(1, 200):
            lots, watchers = lots_and_watchers(choice, range(len(choice[1])), range(choice[0]))
            self.assertEqual(spare_cameras(choice), tuple(sorted(spare_by_words(lots))))
            self.assertEqual(easy_spots(choice), tuple(sorted(easy_by_words(watchers))))

    def test_as_great_as_callers_pass(self):
        rng = dice(2)
        for share in (0.05, 0.5, 0.95):
            choice = some_choice(rng, 40, 40, share)
            self.assertEqual(smaller(choice), smaller_by_words(choice)[0])


class Smaller(unittest.TestCase):
    def test_smaller(self):
        for choice, expected in [(ROW, ((0, 1), (0, 2))), (RING, ((0, 1, 2), (0, 1, 2))), (NOTHING, ((), ())),
                                 ((0, ((), ())), ((0,), ())), ((3, ()), ((), (0, 1, 2))),
                                 ((2, ((0, 1), (0, 1))), ((0,), (0,))), ((3, ((0,), (0, 1))), ((1,), (1, 2))),
                                 ((3, ((0, 1, 2),)), ((0,), (0,)))]:
            self.assertEqual(smaller(choice), expected, choice)

    def test_leaving_out_makes_others_spare_or_easy(self):
        # Without the easy spots 2 and 3 camera 1 sees nothing.
        choice = (4, ((0, 3), (2, 3), (1, 2)))
        self.assertEqual([spare_cameras(choice), easy_spots(choice)], [(), (2, 3)])
        self.assertEqual(smaller(choice), ((0, 2), (0, 1)))
        # Nothing is easy at first; without camera 2 spot 3 is, and then more.
        choice = (4, ((1, 2), (1, 3), (0,), (0, 3), (2, 3)))
        self.assertEqual([spare_cameras(choice), easy_spots(choice)], [(2,), ()])
        self.assertEqual([smaller(choice), smaller_by_words(choice)], [((0, 3), (0, 1)), (((0, 3), (0, 1)), 3)])

    def test_by_the_words(self):
        rounds = {}
        for _, choice in some_choices(3, 300):
            found, many = smaller_by_words(choice)
            self.assertEqual(smaller(choice), found)
            rounds[many] = rounds.get(many, 0) + 1
        self.assertTrue(all(rounds.get(k, 0) > 2 for k in range(3)), rounds)

    def test_the_fewest_before_and_behind(self):
        reduced = 0
        for _, choice in some_choices(4, 200):
            if unseen(choice) == ():
                cameras, spots = smaller(choice)
                cover = chosen_by_words(left_choice(choice, cameras, spots))
                self.assertEqual(len(cover), len(fewest_cameras(choice)))
                # Whatever covers those left covers all.
                for some in combinations(range(len(cameras)), len(cover)):
                    chosen = [cameras[k] for k in some]
                    if set(spots) <= {j for c in chosen for j in choice[1][c]}:
                        self.assertEqual(len(spots_seen(choice, tuple(chosen))), choice[0])
                reduced += len(spots) < choice[0]
        self.assertGreater(reduced, 20)


class Others(unittest.TestCase):
    def test_needed_cameras(self):
        for choice, expected in [(ROW, (1,)), (RING, ()), (NOTHING, ()), ((3, ()), ()), ((2, ((0,), (1,))), (0, 1)),
                                 ((3, ((0, 1, 2), (0,), (0,))), (0,)), ((1, ((), ())), ()),
                                 ((3, ((0,), (0, 1, 2), (0,), ())), (1,))]:
            self.assertEqual(needed_cameras(choice), expected)

    def test_needed_cameras_by_the_words(self):
        for _, choice in some_choices(5, 100):
            watchers = lots_and_watchers(choice, range(len(choice[1])), range(choice[0]))[1]
            self.assertEqual(needed_cameras(choice),
                             tuple(sorted({min(lot) for lot in watchers.values() if len(lot) == 1})))

    def test_most_seen(self):
        for choice, k, expected in [(ROW, 1, (3, (1,))), (ROW, 0, (0, ())), (ROW, 2, (4, (0, 1))),
                                    (ROW, 9, (4, (0, 1))), (RING, 1, (2, (0,))), (RING, 2, (3, (0, 1))),
                                    (NOTHING, 3, (0, ())), ((3, ()), 3, (0, ())), ((3, ((), ())), 2, (0, ())),
                                    ((3, ((), (2,))), 2, (1, (1,))),
                                    # One camera sees as many as any two do.
                                    ((4, ((0,), (1,), (0, 1), (0, 1))), 2, (2, (2,))),
                                    ((4, ((0, 1), (2,), (1, 2), (3,), (0, 3))), 2, (4, (2, 4)))]:
            self.assertEqual(most_seen(choice, k), expected)

    def test_most_seen_by_the_words(self):
        for rng, choice in some_choices(6, 120):
            k = rng.randint(0, 8)
            best = (0, ())
            for some in sorted((some for many in range(k + 1) for some in combinations(range(len(choice[1])), many)),
                               key=lambda some: (len(some), some)):
                seen = len({j for c in some for j in choice[1][c]})
                best = max(best, (seen, some), key=lambda pair: pair[0])
            self.assertEqual(most_seen(choice, k), best)

    def test_fewest_for_each(self):
        for choice, r, expected in [(RING, 1, (0, 1)), (RING, 2, (0, 1, 2)), (RING, 3, None), (ROW, 1, (0, 1)),
                                    (ROW, 2, None), ((0, ((),)), 3, ()), (NOTHING, 12, ()),
                                    ((1, ()), 1, None), ((2, ((0, 1), (0,), (1,), (0, 1))), 2, (0, 3)),
                                    ((2, ((0, 1), (0,), (1,), (0, 1))), 3, (0, 1, 2, 3)),
                                    ((2, ((0, 1), (0,), (1,), (0, 1))), 4, None), ((1, ((0,), (), (0,))), 2, (0, 2))]:
            self.assertEqual(fewest_for_each(choice, r), expected)

    def test_fewest_for_each_by_the_words(self):
        found = 0
        for rng, choice in some_choices(7, 150):
            for r in (1, 2, 3, 12):
                expected = chosen_by_words(choice, r)
                self.assertEqual(fewest_for_each(choice, r), expected)
                found += expected is not None and r == 2
        self.assertGreater(found, 5)


if __name__ == "__main__":
    unittest.main()
