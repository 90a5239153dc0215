"""Promises 14.2 and 14.3."""

import unittest
from fractions import Fraction

from helpers import (
    NONE_AT_ALL, dark_by_words, dice, drones_by_words, exact, nested, paper_by_words, parts, places, some_case,
    some_drones, some_teeth, spots, told, whole,
)
from ridgewatch.errors import BadDeed, NothingDone
from ridgewatch.house import House
from ridgewatch.kept import boards, done, new_board, undone

RIDGE = spots("0,0 1,3 2,0 3,3 4,0")
PEAK = spots("0,0 2,4 4,0")
LEVEL = spots("0,7 2,7 5,7")
FOUR = (4, 1)


def put(text):
    """The deed of a put."""
    return ("put", places(text)[0])


def take(text):
    """The deed of a take."""
    return ("take", places(text)[0])


def shown(house):
    """All that a house shows."""
    return (house.board(), house.deeds(), house.ridge(), house.height(), house.drones(), house.dark(), house.watched(),
            house.missing(), house.spare(), house.fewest())


def some_houses(seed, many):
    """Houses with drones at drawn places."""
    rng = dice(seed)
    for _ in range(many):
        ridge, h = some_case(rng, rng.randint(2, 8))
        if rng.random() < 0.5:
            ridge, h = some_teeth(rng, 8), told(Fraction(rng.randint(39, 41), 2))
        house = House(ridge, h)
        for x in some_drones(rng, ridge, rng.randint(0, 7)):
            house.do(("put", x))
        yield rng, house


class Deeds(unittest.TestCase):
    def test_a_new_house(self):
        house = House(RIDGE, FOUR)
        self.assertEqual([house.board(), house.deeds(), house.drones()], [new_board(RIDGE, FOUR), (), ()])
        self.assertEqual([house.ridge(), house.height()], [RIDGE, FOUR])

    def test_do(self):
        house = House(RIDGE, FOUR)
        deeds = (put("4/3"), ("level", (5, 1)), ("heap", 1, (1, 1)), ("split", 0, (1, 2)), ("drop", 3), take("4/3"))
        self.assertEqual([house.do(deed) for deed in deeds], [1, 2, 3, 4, 5, 6])
        board = new_board(RIDGE, FOUR)
        for deed in deeds:
            board = done(board, deed)
        self.assertEqual([house.board(), house.deeds()], [board, deeds])

    def test_what_is_no_deed_leaves_all_as_it_was(self):
        house = House(RIDGE, FOUR)
        house.do(put("2"))
        house.do(put("3"))
        house.undo()
        before = shown(house)
        for value in NONE_AT_ALL + [nested(30), put("2"), put("5"), take("3"), ("drop", 0), ("drop", 4),
                                    ("level", (4, 1)), ("level", (3, 1)), ("heap", 1, (1, 1)), ("heap", 0, (0, 1)),
                                    ("split", 4, (1, 2)), ("undo",), "put 1", ["put", (1, 1)], ("put", [1, 1]),
                                    {"put": (1, 1)}, ("put", 1), ("put", (True, 1))]:
            with self.assertRaises(BadDeed):
                house.do(value)
            self.assertEqual(shown(house), before)
        # What may be done again may still be.
        self.assertEqual([house.redo(), house.drones()], [2, places("2 3")])

    def test_boards_told_earlier_stay(self):
        house = House(RIDGE, FOUR)
        rows = [house.board()]
        kept = [dict(rows[0])]
        for deed in (put("2"), put("3"), ("level", (5, 1)), take("2"), ("drop", 2)):
            house.do(deed)
            rows.append(house.board())
            kept.append(dict(rows[-1]))
        house.watch(), house.thin(), house.undo(), house.undo(), house.do(put("1"))
        self.assertEqual(rows, kept)
        self.assertEqual(rows, boards(rows[-1]))

    def test_a_board_that_callers_change_is_their_own(self):
        house = House(RIDGE, FOUR)
        house.do(put("2"))
        before = shown(house)
        house.board()["drones"] = ()
        house.board().clear()
        self.assertEqual(shown(house), before)
        house.do(put("3"))
        house.undo()
        self.assertEqual(house.board()["drones"], places("2"))


class BackAndForth(unittest.TestCase):
    def test_undo_and_redo(self):
        house = House(RIDGE, FOUR)
        deeds = (put("2"), ("level", (5, 1)), ("drop", 2))
        for deed in deeds:
            house.do(deed)
        last = house.board()
        self.assertEqual([house.undo(), house.undo(), house.deeds(), house.height()], [2, 1, deeds[:1], FOUR])
        self.assertEqual(house.board(), undone(undone(last)))
        self.assertEqual([house.redo(), house.deeds(), house.redo(), house.board()], [2, deeds[:2], 3, last])
        self.assertEqual([house.undo(), house.undo(), house.undo(), house.board()["back"]], [2, 1, 0, deeds[::-1]])

    def test_a_deed_between(self):
        house = House(RIDGE, FOUR)
        for deed in (put("2"), put("3")):
            house.do(deed)
        house.undo()
        self.assertEqual([house.do(put("1")), house.deeds()], [2, (put("2"), put("1"))])
        with self.assertRaises(NothingDone):
            house.redo()
        self.assertEqual([house.undo(), house.redo(), house.drones()], [1, 2, places("1 2")])

    def test_nothing_done(self):
        house = House(RIDGE, FOUR)
        for act in (house.undo, house.redo):
            with self.assertRaises(NothingDone):
                act()
        house.do(put("2"))
        before = shown(house)
        with self.assertRaises(NothingDone):
            house.redo()
        self.assertEqual(shown(house), before)
        house.undo()
        before = shown(house)
        with self.assertRaises(NothingDone):
            house.undo()
        self.assertEqual(shown(house), before)
        self.assertEqual(house.redo(), 1)


class Twins(unittest.TestCase):
    def test_twin(self):
        house = House(RIDGE, FOUR)
        for deed in (put("2"), ("level", (5, 1)), put("3")):
            house.do(deed)
        house.undo()
        other = house.twin()
        self.assertIsNot(other, house)
        self.assertIsInstance(other, House)
        self.assertEqual(shown(other), shown(house))
        # Each goes its own way.
        before = shown(house)
        self.assertEqual([other.redo(), other.do(put("1")), other.drones()], [3, 4, places("1 2 3")])
        self.assertEqual(shown(house), before)
        before = shown(other)
        house.undo()
        house.do(("drop", 2))
        self.assertEqual(shown(other), before)
        self.assertEqual([other.undo(), other.undo(), other.undo(), other.undo()], [3, 2, 1, 0])
        self.assertEqual([other.ridge(), other.height()], [RIDGE, FOUR])

    def test_twin_of_a_new_house(self):
        house = House(PEAK, (5, 1))
        other = house.twin()
        other.watch()
        self.assertEqual([house.deeds(), house.watched(), other.watched(), other.twin().deeds()],
                         [(), False, True, other.deeds()])


class Watched(unittest.TestCase):
    def test_without_drones(self):
        house = House(RIDGE, FOUR)
        self.assertEqual([house.watch(), house.deeds(), house.drones(), house.watched()],
                         [2, (put("4/3"), put("4")), places("4/3 4"), True])
        self.assertEqual([house.undo(), house.missing(), house.redo(), house.missing()], [1, 1, 2, 0])

    def test_a_watched_house(self):
        house = House(RIDGE, FOUR)
        house.watch()
        house.do(put("2"))
        house.undo()
        before = shown(house)
        # With none all stays, also what can be done again.
        self.assertEqual([house.watch(), shown(house) == before, house.redo()], [0, True, 3])

    def test_each_is_a_deed_of_its_own(self):
        house = House(RIDGE, FOUR)
        house.do(put("2"))
        house.do(put("3"))
        house.undo()
        self.assertEqual([house.missing(), house.watch(), house.deeds()], [2, 2, (put("2"), put("4/3"), put("4"))])
        with self.assertRaises(NothingDone):
            house.redo()

    def test_thin(self):
        house = House(RIDGE, FOUR)
        for x in places("0 4/3 2 4"):
            house.do(("put", x))
        self.assertEqual([house.spare(), house.thin(), house.drones()], [places("0 4/3 2"), 2, places("4/3 4")])
        self.assertEqual(house.spare(), ())
        self.assertEqual([house.thin(), len(house.deeds())], [0, 6])

    def test_thin_goes_on_from_the_least(self):
        house = House(PEAK, (5, 1))
        for x in places("4 2 0"):
            house.do(("put", x))
        # Without 0 the one at 2 is needed, though at first each could go.
        self.assertEqual([house.spare(), house.thin(), house.deeds()[3:], house.drones()],
                         [places("0 2 4"), 2, (take("0"), take("4")), places("2")])

    def test_thin_of_a_house_without_drones(self):
        house = House(PEAK, (5, 1))
        self.assertEqual([house.thin(), house.deeds(), house.spare()], [0, (), ()])
        house.do(put("0"))
        house.undo()
        self.assertEqual([house.thin(), house.redo()], [0, 1])

    def test_by_the_words(self):
        thinned = watched = 0
        for rng, house in some_houses(1, 40):
            ridge, h, drones = house.ridge(), house.height(), house.drones()
            dark = dark_by_words(ridge, h, drones, whole(ridge))
            self.assertEqual([house.dark(), house.watched(), house.missing()],
                             [dark, not dark, len(drones_by_words(ridge, h, dark))])
            other, many = house.twin(), len(house.deeds())
            places_put = drones_by_words(ridge, h, dark)
            self.assertEqual([other.watch(), other.deeds()[many:]],
                             [len(places_put), tuple(("put", x) for x in places_put)])
            self.assertEqual([other.watched(), other.missing(), other.drones()],
                             [True, 0, tuple(sorted(drones + places_put, key=exact))])
            left, taken = list(drones), []
            while True:
                idle = [x for x in left
                        if dark_by_words(ridge, h, tuple(y for y in left if y != x), whole(ridge)) == dark]
                if not taken:
                    self.assertEqual(house.spare(), tuple(idle))
                if not idle:
                    break
                left.remove(idle[0])
                taken.append(("take", idle[0]))
            self.assertEqual([house.thin(), house.deeds()[many:], house.drones(), house.dark()],
                             [len(taken), tuple(taken), tuple(left), dark])
            thinned += len(taken) > 1
            watched += len(places_put) > 1
        self.assertGreater(min(thinned, watched), 1)

    def test_fewest(self):
        house = House(RIDGE, FOUR)
        self.assertEqual(house.fewest(), (2, places("4/3 4"), ((0, (1, 2)), (3, (1, 2)))))
        house.do(put("2"))
        self.assertEqual(house.fewest()[0], 2)
        house.do(("level", (6, 1)))
        self.assertEqual(house.fewest()[:2], (1, places("2")))
        for _, house in some_houses(2, 15):
            ridge, h = house.ridge(), house.height()
            drones = drones_by_words(ridge, h, whole(ridge))
            self.assertEqual(house.fewest(), (len(drones), drones, paper_by_words(ridge, h, whole(ridge))))

    def test_level_ground(self):
        house = House(LEVEL, (8, 1))
        self.assertEqual([house.dark(), house.missing(), house.watch(), house.drones(), house.dark()],
                         [parts("0:0:1 1:0:1"), 1, 1, places("5"), ()])


if __name__ == "__main__":
    unittest.main()
