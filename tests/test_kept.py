"""Promises 12.1 to 12.4."""

import unittest
from fractions import Fraction

from helpers import (
    NONE_AT_ALL, dark_by_words, dice, drones_by_words, exact, frac, nested, numbers, parts, places, some_case,
    some_drones, some_teeth, spots, told, whole,
)
from ridgewatch.drones import cover, fewest
from ridgewatch.errors import BadDeed, NothingDone
from ridgewatch.ground import sees_all
from ridgewatch.kept import (
    boards, change_by, dark_now, done, further, how_many_further, idle, is_deed, is_watched, lower_by, new_board,
    redone, undone,
)
from ridgewatch.ridges import plain, same_ground, spot_of

RIDGE = spots("0,0 1,3 2,0 3,3 4,0")
PIT = spots("0,3 1,0 2,4 9,4")
FOUR = (4, 1)
FIRST = new_board(RIDGE, FOUR)
FIELDS = ["ridge", "height", "drones", "first", "log", "back"]


def deed(text):
    """The deed that a text like heap 1 -3/2 tells."""
    word, *rest = text.split()
    if word in ("heap", "split"):
        return (word, int(rest[0]), frac(rest[1]))
    return (word, int(rest[0]) if word == "drop" else frac(rest[0]))


def behind(board, *texts):
    """The board behind these deeds."""
    for text in texts:
        board = done(board, deed(text))
    return board


def shown(board):
    """The ridge, height and drones of a board."""
    return board["ridge"], board["height"], board["drones"]


def is_deed_by_words(board, value):
    """What 12.1 tells of any deed that has the right form."""
    points, height = numbers(board["ridge"]), exact(board["height"])
    word, *rest = value
    if word == "heap":
        i, dy = rest[0], exact(rest[1])
        return 0 <= i < len(points) and dy != 0 and points[i][1] + dy < height
    if word == "split":
        return 0 <= rest[0] < len(points) - 1 and 0 < exact(rest[1]) < 1
    if word == "drop":
        return 0 < rest[0] < len(points) - 1
    x = exact(rest[0])
    if word == "put":
        return points[0][0] <= x <= points[-1][0] and rest[0] not in board["drones"]
    if word == "take":
        return rest[0] in board["drones"]
    return x != height and x > max(y for _, y in points)


def shown_behind(board, value):
    """The ridge, height and drones behind a deed, by the words."""
    points, height, drones = numbers(board["ridge"]), exact(board["height"]), [exact(x) for x in board["drones"]]
    word, *rest = value
    if word == "heap":
        points[rest[0]] = (points[rest[0]][0], points[rest[0]][1] + exact(rest[1]))
    elif word == "split":
        (p, q), (r, s), t = points[rest[0]], points[rest[0] + 1], exact(rest[1])
        points.insert(rest[0] + 1, (p + t * (r - p), q + t * (s - q)))
    elif word == "drop":
        del points[rest[0]]
    elif word == "put":
        drones.append(exact(rest[0]))
    elif word == "take":
        drones.remove(exact(rest[0]))
    else:
        height = exact(rest[0])
    return tuple((told(x), told(y)) for x, y in points), told(height), tuple(told(x) for x in sorted(drones))


def some_deed(rng, board):
    """A value of the form of a deed, not always one for this board."""
    corners, (start, end) = len(board["ridge"]), (board["ridge"][0][0], board["ridge"][-1][0])
    word = rng.choice(("heap", "heap", "split", "drop", "put", "put", "put", "take", "level"))
    if word == "heap":
        room = exact(board["height"]) - max(y for _, y in numbers(board["ridge"]))
        dy = rng.choice((room, room / 2, Fraction(-1), Fraction(1, 2), Fraction(0), Fraction(rng.randint(-6, 6), 2)))
        return (word, rng.randint(0, corners), told(dy))
    if word == "split":
        return (word, rng.randint(0, corners - 1), rng.choice(places("0 1 1/2 1/3 3/4 5/4")))
    if word == "drop":
        return (word, rng.randint(0, corners))
    if word == "level":
        return (word, told(exact(board["height"]) + Fraction(rng.randint(-6, 6), 2)))
    if word == "take" and board["drones"] and rng.random() < 0.8:
        return (word, rng.choice(board["drones"]))
    return (word, told(exact(start) + Fraction(rng.randint(-1, 13), 12) * (exact(end) - exact(start))))


def some_boards(seed, many, corners=8, drones=4):
    """Boards of all kinds, some drones at places that further tells."""
    rng = dice(seed)
    for _ in range(many):
        ridge, h = some_case(rng, rng.randint(2, corners))
        if rng.random() < 0.5:
            ridge, h = some_teeth(rng, corners), told(Fraction(rng.randint(39, 41), 2))
        board = new_board(ridge, h)
        more = cover(ridge, h) if rng.random() < 0.6 else ()
        for x in some_drones(rng, ridge, rng.randint(0, drones), more):
            board = done(board, ("put", x))
        if more and rng.random() < 0.5 and more[0] not in board["drones"]:
            board = done(board, ("put", more[0]))
        yield rng, board


class NewBoards(unittest.TestCase):
    def test_new_board(self):
        self.assertEqual(FIRST, {"ridge": RIDGE, "height": FOUR, "drones": (), "first": (RIDGE, FOUR), "log": (),
                                 "back": ()})
        self.assertEqual(sorted(FIRST), sorted(FIELDS))

    def test_fields_behind_deeds(self):
        board = behind(FIRST, "put 3", "put 1/2", "level 5", "heap 1 1", "split 0 1/2", "take 3")
        self.assertEqual(sorted(board), sorted(FIELDS))
        self.assertEqual(board["first"], (RIDGE, FOUR))
        self.assertEqual(board["log"], tuple(map(deed, ("put 3", "put 1/2", "level 5", "heap 1 1", "split 0 1/2",
                                                        "take 3"))))
        self.assertEqual([board["drones"], board["height"], board["back"]], [places("1/2"), (5, 1), ()])
        self.assertEqual(board["ridge"], spots("0,0 1/2,2 1,4 2,0 3,3 4,0"))


class Deeds(unittest.TestCase):
    def check(self, board, right, wrong):
        for text in right.split(", "):
            self.assertIs(is_deed(board, deed(text)), True, text)
            self.assertEqual(shown(done(board, deed(text))), shown_behind(board, deed(text)))
        for text in wrong.split(", "):
            self.assertIs(is_deed(board, deed(text)), False, text)
            with self.assertRaises(BadDeed):
                done(board, deed(text))

    def test_heap(self):
        self.check(FIRST,
                   "heap 0 1, heap 0 7/2, heap 1 99/100, heap 1 -3, heap 4 -99, heap 2 3, heap 3 1/2, heap 4 399/100",
                   "heap 0 4, heap 0 9/2, heap 1 1, heap 1 2, heap 5 1, heap 6 -1, heap -1 1, heap 2 0, heap 4 4")

    def test_split(self):
        self.check(FIRST, "split 0 1/2, split 3 1/3, split 1 99/100, split 2 1/100",
                   "split 0 0, split 0 1, split 3 1, split 4 1/2, split -1 1/2, split 1 -1/2, split 1 3/2, split 5 0")

    def test_drop(self):
        self.check(FIRST, "drop 1, drop 2, drop 3", "drop 0, drop 4, drop 5, drop -1")
        for text in ("drop 0", "drop 1"):
            self.assertIs(is_deed(new_board(spots("0,0 3,1"), FOUR), deed(text)), False)

    def test_put(self):
        self.check(FIRST, "put 0, put 4, put 2, put 7/2", "put -1, put 5, put -1/100, put 401/100")
        board = behind(FIRST, "put 2", "put 1/2")
        self.check(board, "put 0, put 1, put 4, put 5/2", "put 2, put 1/2, put 5")
        self.assertEqual(behind(board, "put 5/2", "put 1/3", "put 1")["drones"], places("1/3 1/2 1 2 5/2"))

    def test_take(self):
        self.check(behind(FIRST, "put 2", "put 1/2", "put 4"), "take 2, take 1/2, take 4",
                   "take 0, take 1, take 5, take 3/2")
        self.assertIs(is_deed(FIRST, deed("take 2")), False)
        self.assertEqual(behind(FIRST, "put 2", "put 1", "take 2")["drones"], places("1"))

    def test_level(self):
        self.check(FIRST, "level 5, level 301/100, level 7/2, level 400",
                   "level 4, level 3, level 2, level -5, level 0")
        self.assertIs(is_deed(behind(FIRST, "level 5"), deed("level 4")), True)
        # A height may have the worth of a drone's place.
        self.assertEqual(shown(behind(FIRST, "put 7/2", "level 7/2")), (RIDGE, frac("7/2"), places("7/2")))

    def test_the_height_bars_heaps(self):
        high = behind(FIRST, "level 9")
        self.assertEqual([is_deed(high, deed(text)) for text in ("heap 1 1", "heap 1 59/10", "heap 1 6")],
                         [True, True, False])
        tall = behind(high, "heap 1 5")
        self.assertEqual([is_deed(tall, deed(text)) for text in ("level 8", "level 17/2", "level 9")],
                         [False, True, False])
        self.assertIs(is_deed(behind(tall, "drop 1"), deed("level 4")), True)

    def test_any_value(self):
        board = behind(FIRST, "put 1")
        wrong = NONE_AT_ALL + [
            nested(30), ("heap",), ("heap", 1), ("heap", 1, (1, 2), 0), ("heap", (1, 2), 1), ("heap", "1", (1, 2)),
            ("heap", True, (1, 2)), ("heap", 1, 1),
            ("heap", 1, (1, -2)), ("heap", 1, (2, 4)), ("heap", 1, (True, 2)), ("heap", 1, (False, 1)),
            ("heap", 1, None), ("heap", None, (1, 2)), ("heap", 1, [1, 2]),
            ["heap", 1, (1, 2)], ("split", 1), ("split", True, (1, 2)), ("split", False, (1, 2)), ("split", 1, (2, 4)),
            ("split", 1, 0), ("split", 1, (1, 2), 1), ("split", [1], (1, 2)),
            ("drop",), ("drop", True), ("drop", "1"), ("drop", (1, 1)), ("drop", 1, (1, 2)), ("drop", [1]), ["drop", 1],
            ("drop", None), ("drop", 10 ** 59),
            ("put",), ("put", 2), ("put", (4, 2)), ("put", (2, True)), ("put", [2, 1]), ("put", None),
            ("put", (2, 1), (2, 1)), ("put", {}), ("put", ((2, 1),)),
            ("take",), ("take", 1), ("take", (True, 1)), ("take", (1, True)), ("take", [1, 1]), ("take", (1, 1), 0),
            ("take", (2, 2)), ("take", {}),
            ("level",), ("level", 5), ("level", (10, 2)), ("level", (5, True)), ("level", [5, 1]),
            ("level", (5, 1), ()), ("Level", (5, 1)), ("level ", (5, 1)),
            ("", (5, 1)), (None, (5, 1)), (("put",), (2, 1)), (["put"], (2, 1)), ({}, (2, 1)), (0, 1, (1, 2)),
            ("undo",), "put", "put 2", ("put 2",), {"put": (2, 1)},
        ]
        for value in wrong:
            self.assertIs(is_deed(board, value), False, value)
            with self.assertRaises(BadDeed):
                done(board, value)
        self.assertEqual(shown(board), (RIDGE, FOUR, places("1")))

    def test_by_the_words(self):
        rng = dice(1)
        kinds = {}
        for _ in range(60):
            ridge, h = some_case(rng, rng.randint(2, 6))
            board = new_board(ridge, h)
            for _ in range(12):
                value = some_deed(rng, board)
                right = is_deed_by_words(board, value)
                self.assertIs(is_deed(board, value), right, (board, value))
                kinds[value[0], right] = kinds.get((value[0], right), 0) + 1
                before = dict(board)
                if right:
                    after = done(board, value)
                    self.assertEqual(shown(after), shown_behind(board, value))
                    self.assertEqual([after["log"], after["back"], after["first"]],
                                     [board["log"] + (value,), (), (ridge, h)])
                    # The board that was passed is as it was.
                    self.assertEqual(board, before)
                    board = after
        words = ("heap", "split", "drop", "put", "take", "level")
        self.assertGreater(min(kinds.get((word, right), 0) for word in words for right in (True, False)), 5, kinds)


class Undone(unittest.TestCase):
    def test_undone_and_redone(self):
        late = behind(FIRST, "put 4/3", "level 5", "drop 2")
        one = undone(late)
        self.assertEqual(shown(one), shown(behind(FIRST, "put 4/3", "level 5")))
        self.assertEqual([one["log"], one["back"], one["first"]], [late["log"][:2], (deed("drop 2"),), (RIDGE, FOUR)])
        two = undone(one)
        self.assertEqual([shown(two), two["log"]], [(RIDGE, FOUR, places("4/3")), (deed("put 4/3"),)])
        self.assertEqual(two["back"], (deed("drop 2"), deed("level 5")))
        self.assertEqual([redone(two), redone(redone(two)), redone(one)], [one, late, late])
        self.assertEqual(undone(redone(undone(two))), undone(two))

    def test_a_deed_of_its_own(self):
        two = undone(undone(behind(FIRST, "put 4/3", "level 5", "drop 2")))
        again = done(two, deed("put 2"))
        self.assertEqual([again["back"], again["log"]], [(), (deed("put 4/3"), deed("put 2"))])
        with self.assertRaises(NothingDone):
            redone(again)
        self.assertEqual(undone(again)["back"], (deed("put 2"),))
        self.assertEqual(len(two["back"]), 2)

    def test_nothing_done(self):
        for board in (FIRST, undone(behind(FIRST, "put 1"))):
            with self.assertRaises(NothingDone):
                undone(board)
        for board in (FIRST, behind(FIRST, "put 1"), redone(undone(behind(FIRST, "put 1")))):
            with self.assertRaises(NothingDone):
                redone(board)

    def test_to_the_beginning_and_back(self):
        rng = dice(2)
        for _ in range(15):
            ridge, h = some_case(rng, rng.randint(2, 6))
            board, rows = new_board(ridge, h), []
            for _ in range(40):
                value = some_deed(rng, board)
                if is_deed(board, value) and len(board["ridge"]) < 12:
                    rows.append(board)
                    board = done(board, value)
            self.assertEqual(boards(board), rows + [board])
            back, last = (), board
            for row in reversed(rows):
                back += (board["log"][-1],)
                board = undone(board)
                self.assertEqual(board, dict(row, back=back))
            for row in rows[1:] + [last]:
                board = redone(board)
                back = back[:-1]
                self.assertEqual(board, dict(row, back=back))

    def test_boards(self):
        self.assertEqual(boards(FIRST), [FIRST])
        late = behind(FIRST, "put 1", "level 5")
        self.assertEqual(boards(late), [FIRST, behind(FIRST, "put 1"), late])
        # With what can be done again left out, in this one too.
        back = undone(behind(late, "drop 1"))
        self.assertEqual([back["back"], boards(back)], [(deed("drop 1"),), boards(late)])
        self.assertIsInstance(boards(late), list)
        self.assertEqual([board["back"] for board in boards(back)], [(), (), ()])

    def test_nothing_passed_is_changed(self):
        late = behind(FIRST, "put 1", "level 5", "split 0 1/2")
        row = undone(late)
        kept, before = dict(late), dict(row)
        for board in (late, row):
            for look in (boards, undone, dark_now, further, idle):
                look(board)
            for act in (done, change_by):
                act(board, deed("put 2"))
        redone(row)
        self.assertEqual([late, row], [kept, before])
        found = boards(late)
        found.clear()
        self.assertEqual(len(boards(late)), 4)


class Watched(unittest.TestCase):
    def test_without_drones(self):
        self.assertEqual([dark_now(FIRST), is_watched(FIRST), further(FIRST), how_many_further(FIRST), idle(FIRST)],
                         [whole(RIDGE), False, places("4/3 4"), 2, ()])

    def test_drones_that_see_all(self):
        board = behind(FIRST, "put 4/3", "put 4")
        self.assertEqual([dark_now(board), is_watched(board), further(board), how_many_further(board), idle(board)],
                         [(), True, (), 0, ()])
        more = behind(board, "put 2", "put 0")
        self.assertEqual([is_watched(more), further(more), idle(more)], [True, (), places("0 4/3 2")])

    def test_further_is_for_the_dark_parts(self):
        board = behind(FIRST, "put 4/3")
        self.assertEqual([dark_now(board), further(board), idle(board)], [parts("3:0:1"), places("4"), ()])
        self.assertEqual([further(behind(FIRST, "put 4")), how_many_further(behind(FIRST, "put 2"))],
                         [places("4/3"), 2])

    def test_single_corners_are_no_parts(self):
        # The drone at 4 alone sees corner 0, but nothing else that the one at 9 does not see.
        board = new_board(PIT, (5, 1))
        for x in places("4 9"):
            board = done(board, ("put", x))
        self.assertEqual([dark_now(board), dark_now(done(board, deed("take 4"))), idle(board)],
                         [dark_now(done(board, deed("take 9"))), dark_now(board), places("4 9")])

    def test_by_the_words(self):
        kinds = {}
        for _, board in some_boards(3, 60):
            ridge, h, drones = shown(board)
            dark = dark_by_words(ridge, h, drones, whole(ridge))
            found = further(board)
            self.assertEqual([dark_now(board), is_watched(board)], [dark, not dark])
            self.assertEqual([found, how_many_further(board)], [drones_by_words(ridge, h, dark), len(found)])
            rest = [tuple(y for y in drones if y != x) for x in drones]
            self.assertEqual(idle(board), tuple(
                x for x, left in zip(drones, rest) if dark_by_words(ridge, h, left, whole(ridge)) == dark))
            self.assertIs(is_watched(board), how_many_further(board) == 0)
            if not drones:
                self.assertEqual([further(board), how_many_further(board)], [cover(ridge, h), fewest(ridge, h)])
            # None of them is a drone's, and with them all is seen.
            self.assertFalse(set(found) & set(drones))
            self.assertIs(sees_all(ridge, h, tuple(sorted(set(found) | set(drones), key=exact))), True)
            kinds[bool(drones), min(len(found), 2)] = kinds.get((bool(drones), min(len(found), 2)), 0) + 1
        self.assertTrue(all(kinds.get((True, k), 0) > 3 for k in range(3)), kinds)

    def test_drones_at_places_that_further_tells(self):
        for _, board in some_boards(4, 25, drones=1):
            many = how_many_further(board)
            for k, x in enumerate(further(board)):
                board = done(board, ("put", x))
                self.assertLessEqual(how_many_further(board), many)
                many = how_many_further(board)
            self.assertIs(is_watched(board), True)


class Changed(unittest.TestCase):
    def test_lower_by(self):
        self.assertEqual([lower_by(FIRST, i) for i in (1, 2, 3)], [(3, 1), (-3, 1), (3, 1)])
        board = new_board(spots("0,0 2,2 3,3 5,1 8,-1"), FOUR)
        self.assertEqual([lower_by(board, i) for i in (1, 2, 3)], [(0, 1), frac("4/3"), frac("-2/5")])
        # A corner just split stands on the way.
        self.assertEqual(lower_by(behind(board, "split 2 1/3"), 3), (0, 1))

    def test_lower_by_the_words(self):
        for rng, board in some_boards(5, 30, drones=0):
            points = numbers(board["ridge"])
            for i in range(1, len(points) - 1):
                (p, q), (x, y), (r, s) = points[i - 1:i + 2]
                self.assertEqual(lower_by(board, i), told(y - q - (s - q) * (x - p) / (r - p)))

    def test_change_by(self):
        late = behind(FIRST, "put 4/3")
        for board, text, change in [(late, "put 4", -1), (late, "put 2", 0), (late, "take 4/3", 1),
                                    (FIRST, "level 6", -1), (FIRST, "level 31/10", 0), (FIRST, "split 0 1/2", 0),
                                    (FIRST, "heap 2 3", 0), (FIRST, "drop 2", 0), (FIRST, "drop 1", -1),
                                    (behind(FIRST, "level 6"), "level 4", 1), (FIRST, "heap 0 7/2", -1)]:
            self.assertEqual(change_by(board, deed(text)), change, text)

    def test_bounds(self):
        seen = {}
        for rng, board in some_boards(6, 60, corners=7, drones=3):
            values = [some_deed(rng, board) for _ in range(8)]
            values += [("put", x) for x in further(board)[:1]] + [("take", x) for x in board["drones"][:2]]
            values.append(("level", told(exact(board["height"]) + 3)))
            for value in values:
                if is_deed(board, value):
                    word, change = value[0], change_by(board, value)
                    self.assertEqual(change, how_many_further(done(board, value)) - how_many_further(board))
                    least, most = {"split": (0, 0), "put": (-1, 0), "take": (0, 1)}.get(word, (-99, 99))
                    if word == "level" and exact(value[1]) > exact(board["height"]):
                        most = 0
                    self.assertTrue(least <= change <= most, (board, value, change))
                    seen[word, change] = seen.get((word, change), 0) + 1
        for pair in (("split", 0), ("put", 0), ("put", -1), ("take", 0), ("take", 1), ("level", 0), ("level", -1)):
            self.assertGreater(seen.get(pair, 0), 2, seen)

    def test_split_and_dropped(self):
        for rng, board in some_boards(7, 40, corners=7):
            ridge, h, drones = shown(board)
            i, t = rng.randrange(len(ridge) - 1), rng.choice(places("1/2 1/3 9/10"))
            after = done(board, ("split", i, t))
            self.assertIs(same_ground(after["ridge"], ridge), True)
            self.assertEqual([after["ridge"][i + 1], plain(after["ridge"])], [spot_of(ridge, (i, t)), plain(ridge)])
            self.assertEqual([how_many_further(after), further(after)], [how_many_further(board), further(board)])
            # The dark parts are of the same spots: on the plan they go from the same x to the same.
            self.assertEqual(stretches(after), stretches(board))
            taken = done(after, ("drop", i + 1))
            self.assertEqual([shown(taken), lower_by(after, i + 1)], [shown(board), (0, 1)])


def stretches(board):
    """From where to where the ground is dark on the plan, what meets put together."""
    found = []
    for i, a, b in dark_now(board):
        start, end = [exact(spot_of(board["ridge"], (i, t))[0]) for t in (a, b)]
        if found and found[-1][1] == start:
            found[-1] = (found[-1][0], end)
        else:
            found.append((start, end))
    return found


if __name__ == "__main__":
    unittest.main()
