"""Promises 0.1 to 0.3: what the document promises over the whole program."""

import copy
import importlib
import inspect
import unittest
from fractions import Fraction
from itertools import combinations

from helpers import (
    NONE_AT_ALL, dark_by_words, dice, ends_by_words, exact, grounds, inner_by_words, lead_by_words, nested, numbers,
    parts, places, sees_by_words, some_case, some_points, some_room, some_spots_in, some_teeth, spot, spots, told,
    whole,
)
from ridgewatch.cameras import cameras
from ridgewatch.desk import Desk
from ridgewatch.drones import cover, fewest, judge_cover, judge_paper, most_drones, paper
from ridgewatch.house import House
from ridgewatch.kept import done, new_board
from ridgewatch.kernels import bars, judge_bars, kernel
from ridgewatch.ridges import joined, mirrored
from ridgewatch.sight import reach
from ridgewatch.surveys import report
from ridgewatch.views import sees_room, unlit_parts, view_share
from test_interface import INTERFACE

RIDGE = spots("0,0 1,3 2,0 3,3 4,0")
ROOM = spots("0,0 4,0 4,2 2,2 2,4 0,4")
CUT = ((0, 1, 2), (0, 2, 3), (0, 3, 5), (3, 4, 5))
RING = (3, ((0, 1), (1, 2), (0, 2)))
BOARD = done(done(new_board(RIDGE, (4, 1)), ("put", (2, 1))), ("put", (3, 1)))
HALF = (1, 2)

PASSED = {
    "value": None, "u": 6, "e": -4, "x": (2, 1), "y": (1, 3), "t": HALF, "i": 1, "j": 0, "k": 1, "m": 1, "r": 1, "c": 3,
    "some": places("1/2 1/3"),
    "one": RIDGE, "other": spots("0,0 1,2"), "ridge": RIDGE, "h": (4, 1), "height": (4, 1), "heights": [(4, 1), (6, 1)],
    "g": (1, HALF), "ground": (1, HALF),
    "grounds": grounds("0:1/2 3:1/3"), "drones": places("2 3"), "places": places("2 3 1"),
    "parts": parts("0:0:1 3:1/2:1"), "dx": (1, 1), "dy": HALF, "s": (3, 1), "f": (2, 1),
    "word": "ridge", "spots": RIDGE, "text": "1/2", "more": (("drones", places("2")),), "spot": spot("1,1"),
    "room": ROOM, "camera": spot("3,1"), "cameras": [spot("3,1"), spot("1,3")],
    "side": (HALF, (1, 1), (0, 1)), "form": ROOM[:3], "walls": (0, 2, 4), "lead": HALF, "cut": CUT, "corners": (0, 3),
    "choice": RING, "board": BOARD, "deed": ("drop", 1),
    "deeds": (("drop", 1),), "ridges": [RIDGE, mirrored(RIDGE)],
}
"""What is passed for an argument of this name."""

OTHERWISE = {
    "spots": {"a": spot("0,0"), "b": spot("2,1"), "c": spot("1,5"), "d": spot("3,0"), "spots": ROOM},
    "ridges": {"a": (1, 1), "b": (3, 1)}, "sight": {"drones": [(2, 1), (3, 1)], "spots": [(1, HALF), (2, HALF)]},
    "slopes": {"drones": [(2, 1), (3, 1)]}, "ground": {"spot": (1, HALF)},
    "views": {"one": spot("3,1"), "other": spot("1,3")},
    "rooms": {"one": ROOM, "other": ROOM[1:] + ROOM[:1], "i": 0, "j": 3},
    "choosing": {"spots": grounds("0:1/2 3:1/3"), "spot": 1, "cameras": (0, 2)},
}
"""What is passed in these files instead."""

ALONE = {
    "posed_room": {"t": 5}, "begun_at": {"i": 2}, "choice_of_room": {"cameras": ROOM, "spots": ROOM[:2]},
    "read_spots": {"text": "ridge 0,0 1,1"}, "read_grounds": {"text": "at 0:1/2"}, "read_drones": {"text": "drones 1"},
    "read_survey": {"text": "room 0,0\nat -"}, "read_deed": {"text": "put 1"}, "read_log": {"text": "put 1\ndrop 2"},
    "redone": {"board": dict(BOARD, back=(("drop", 1),))}, "spots_text": {"spots": RIDGE},
    "greedy_drones": {"places": places("2 3 1")}, "refined": {"grounds": grounds("0:1/2 3:1/3")},
}
"""What is passed to these functions instead."""


def calls():
    """Each function of the interface, with arguments that it takes."""
    for file, names in INTERFACE.items():
        if file in ("errors", "house", "desk"):
            continue
        module = importlib.import_module("ridgewatch." + file)
        for name in names.split("; "):
            function = getattr(module, name.partition("(")[0])
            named = {**PASSED, **OTHERWISE.get(file, {}), **ALONE.get(function.__name__, {})}
            yield function, [named[word] for word in inspect.signature(function).parameters]


def spoil(value):
    """Changes what can be changed in a value."""
    if isinstance(value, (list, tuple, dict)):
        for part in list(value.values()) if isinstance(value, dict) else value:
            spoil(part)
    if isinstance(value, (list, dict)):
        value.clear()


class Calls(unittest.TestCase):
    def test_the_same_call_returns_the_same(self):
        many = 0
        for function, arguments in calls():
            before = copy.deepcopy(arguments)
            one = function(*arguments)
            # No argument is modified.
            self.assertEqual(repr(arguments), repr(before), function)
            kept = copy.deepcopy(one)
            again = function(*before)
            self.assertEqual(repr(again), repr(kept), function)
            # What callers change in an answer stays their own.
            if function.__name__ not in ("new_board", "done", "undone", "redone"):
                spoil(one)
                self.assertEqual([repr(arguments), repr(again), repr(function(*arguments))],
                                 [repr(before), repr(kept), repr(kept)], function)
            many += 1
        self.assertGreater(many, 150)

    def test_plain_values(self):
        for function, arguments in calls():
            self.assertTrue(is_plain(function(*arguments)), function)

    def test_is_and_judge_take_any_value(self):
        many = 0
        for function, arguments in calls():
            names = list(inspect.signature(function).parameters)
            if "value" not in names:
                continue
            many += 1
            for value in NONE_AT_ALL + [nested(40), [nested(29)], "~" * 200, {"a": {"b": []}}, ((),) * 50,
                                        tuple([None] * 200)]:
                arguments[names.index("value")] = value
                answer = function(*arguments)
                if function.__name__.startswith("is_"):
                    self.assertIn(repr(answer), ("True", "False"), (function, value))
                else:
                    self.assertTrue(answer is None or isinstance(answer, tuple) and isinstance(answer[0], str),
                                    (function, value))
        self.assertGreater(many, 25)

    def test_where_a_list_is_asked_a_tuple_may_be_passed(self):
        for function, arguments in calls():
            listed = [tuple(value) if isinstance(value, list) else value for value in arguments]
            self.assertEqual(function(*listed), function(*arguments), function)


def is_plain(value):
    """Whether the value is made of plain ones."""
    if isinstance(value, dict):
        return all(isinstance(key, str) and is_plain(part) for key, part in value.items())
    if isinstance(value, (list, tuple)):
        return all(is_plain(part) for part in value)
    return value is None or isinstance(value, (bool, int, str))


class Mountains(unittest.TestCase):
    def cases(self, seed, many):
        rng = dice(seed)
        for _ in range(many):
            ridge, h = some_case(rng, rng.randint(2, 9))
            if rng.random() < 0.4:
                ridge, h = some_teeth(rng, 9), told(Fraction(rng.randint(39, 44), 2))
            if rng.random() < 0.2:
                ridge = joined(ridge, mirrored(ridge))[:12]
                h = told(max(exact(y) for _, y in ridge) + Fraction(rng.randint(1, 9), 4))
            yield rng, ridge, h

    def test_as_many_drones_as_told_see_all_and_no_fewer_do(self):
        several = 0
        for rng, ridge, h in self.cases(1, 60):
            drones, watched = cover(ridge, h), paper(ridge, h)
            self.assertEqual([len(drones), len(watched)], [fewest(ridge, h)] * 2)
            self.assertEqual(dark_by_words(ridge, h, drones, whole(ridge)), ())
            # No drone sees two spots of the paper: whoever sees them all needs a drone for each.
            ends = [ends_by_words(ridge, exact(h), i, exact(t)) for i, t in watched]
            for (_, right), (left, _) in zip(ends, ends[1:]):
                self.assertLess(right, left)
            self.assertEqual([judge_cover(ridge, h, drones), judge_paper(ridge, h, watched)], [None, None])
            self.assertLessEqual(len(drones), most_drones(ridge, h))
            several += len(drones) > 2
        self.assertGreater(several, 3)

    def test_fewer_drones_at_many_places_leave_something_dark(self):
        for rng, ridge, h in self.cases(2, 25):
            many = fewest(ridge, h)
            watched = [(i, t) for i in range(len(ridge) - 1) for t in ((0, 1), HALF, (1, 1))]
            ends = [end for g in watched for end in reach(ridge, h, g)]
            tried = sorted(set(ends) | set(cover(ridge, h)), key=exact)
            tried = sorted(rng.sample(tried, min(len(tried), 9)), key=exact)
            for some in combinations(tried, many - 1):
                self.assertNotEqual(dark_by_words(ridge, h, some, whole(ridge)), ())

    def test_all_ways_to_the_number_agree(self):
        for _, ridge, h in self.cases(3, 15):
            house, desk = House(ridge, h), Desk(ridge, h)
            told_first = [fewest(ridge, h), report(ridge, h)[0], house.missing(), house.fewest()[0],
                          int(desk.say("missing")), int(desk.say("fewest")), house.watch(), int(desk.say("watch"))]
            self.assertEqual(told_first, [len(cover(ridge, h))] * 8)
            self.assertEqual([house.drones(), house.board(), house.thin(), house.watched()],
                             [cover(ridge, h), desk.house().board(), 0, True])


class Rooms(unittest.TestCase):
    def test_one_camera_sees_all_exactly_if_no_walls_bar_it(self):
        kinds = {True: 0, False: 0}
        rng = dice(4)
        for _ in range(50):
            room = some_room(rng, rng.randint(3, 10), rng.choice((3, 5)))
            points, form, paper_told = numbers(room), kernel(room), bars(room)
            self.assertIs(form == (), paper_told is not None)
            if form:
                # Whoever stands at a corner of the kernel sees the whole room.
                for corner in form:
                    self.assertIs(sees_room(room, corner), True)
                    self.assertEqual(view_share(room, corner), (1, 1))
                    for p in rng.sample(some_spots_in(rng, points), 3):
                        self.assertTrue(sees_by_words(points, (exact(corner[0]), exact(corner[1])), p))
            else:
                self.assertIsNone(judge_bars(room, paper_told))
                sides = inner_by_words(points)
                for p in some_spots_in(rng, points)[:15]:
                    self.assertTrue(any(lead_by_words(sides[i], p) < 0 for i, _ in paper_told))
                    self.assertFalse(all(sees_by_words(points, p, q) for q in points))
            kinds[form == ()] += 1
        self.assertGreater(min(kinds.values()), 5)

    def test_each_three_walls(self):
        rng = dice(5)
        for _ in range(20):
            points = some_points(rng, rng.randint(3, 8))
            sides = inner_by_words(points)
            room = tuple((told(x), told(y)) for x, y in points)
            threes = all(three_have_a_spot([sides[i] for i in three]) for three in combinations(range(len(sides)), 3))
            self.assertIs(kernel(room) != (), threes)

    def test_a_third_of_the_corners_is_enough(self):
        rng = dice(6)
        fewer = 0
        for _ in range(40):
            room = some_room(rng, rng.randint(3, 12), rng.choice((4, 6)))
            points, eyes = numbers(room), cameras(room)
            self.assertLessEqual(len(eyes), len(room) // 3)
            self.assertEqual(unlit_parts(room, [room[i] for i in eyes]), ())
            for p in some_spots_in(rng, points):
                self.assertTrue(any(sees_by_words(points, points[i], p) for i in eyes))
            fewer += len(eyes) < len(room) // 3
        self.assertGreater(fewer, 1)


def three_have_a_spot(sides):
    """Whether three closed half planes have a spot in common: looked for in a box that is far greater than the room."""
    far = Fraction(10 ** 6)
    corners = [(-far, -far), (far, -far), (far, far), (-far, far)]
    for a, b, c in sides:
        found = []
        for p, q in zip(corners, corners[1:] + corners[:1]):
            lead, other = a * p[0] + b * p[1] - c, a * q[0] + b * q[1] - c
            if lead >= 0:
                found.append(p)
            if lead * other < 0:
                t = lead / (lead - other)
                found.append((p[0] + t * (q[0] - p[0]), p[1] + t * (q[1] - p[1])))
        corners = found
    return bool(corners)


if __name__ == "__main__":
    unittest.main()
