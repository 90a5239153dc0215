"""Promise 14.4."""

import unittest

from helpers import NONE_AT_ALL, dice, nested, number_of, places, some_case, some_drones, spots
from ridgewatch.deeds import deed_text, log_text
from ridgewatch.desk import Desk
from ridgewatch.fractions import fraction
from ridgewatch.house import House
from ridgewatch.kept import is_deed
from ridgewatch.texts import drones_text, fraction_text, spots_text

RIDGE = spots("0,0 1,3 2,0 3,3 4,0")
PEAK = spots("0,0 2,4 4,0")
LEVEL = spots("0,7 2,7 5,7")
FOUR = (4, 1)
ASKED = ("ridge", "height", "drones", "spare", "log", "watched", "missing", "fewest", "dark")


def said(desk, lines):
    """The answers to the lines, parted by commas."""
    return [desk.say(line) for line in lines.split(", ")]


class Lines(unittest.TestCase):
    def test_deeds(self):
        desk = Desk(RIDGE, FOUR)
        self.assertEqual(said(desk, "put 4/3, put 4, level 5, heap 1 1/2, split 0 1/2, drop 3, take 4"),
                         ["1", "2", "3", "4", "5", "6", "7"])
        self.assertEqual(desk.say("log"), "put 4/3\nput 4\nlevel 5\nheap 1 1/2\nsplit 0 1/2\ndrop 3\ntake 4")
        self.assertEqual(said(desk, "ridge, height, drones"), ["ridge 0,0 1/2,7/4 1,7/2 3,3 4,0", "5", "drones 4/3"])

    def test_undo_and_redo(self):
        desk = Desk(RIDGE, FOUR)
        self.assertEqual(said(desk,
                              "undo, redo, put 1, redo, put 2, undo, undo, undo, redo, redo, redo, undo, put 3, redo"),
                         ["refused", "refused", "1", "refused", "2", "1", "0", "refused", "1", "2", "refused", "1", "2",
                          "refused"])
        self.assertEqual(said(desk, "drones, log"), ["drones 1 3", "put 1\nput 3"])

    def test_watch_and_thin(self):
        desk = Desk(RIDGE, FOUR)
        self.assertEqual(said(desk, "watched, missing, watch, watched, missing, watch, drones"),
                         ["no", "2", "2", "yes", "0", "0", "drones 4/3 4"])
        self.assertEqual(said(desk, "put 2, spare, thin, thin, drones, log"),
                         ["3", "drones 2", "1", "0", "drones 4/3 4", "put 4/3\nput 4\nput 2\ntake 2"])

    def test_without_drones(self):
        desk = Desk(RIDGE, FOUR)
        self.assertEqual(said(desk, ", ".join(ASKED)), ["ridge 0,0 1,3 2,0 3,3 4,0", "4", "drones -", "drones -",
                                                        "nothing", "no", "2", "2", "0 0 1\n1 0 1\n2 0 1\n3 0 1"])
        self.assertEqual(said(desk, "thin, undo, log"), ["0", "refused", "nothing"])

    def test_level_ground(self):
        desk = Desk(LEVEL, (15, 2))
        self.assertEqual(said(desk, "height, dark, fewest, watch, dark, drones, spare, watched"),
                         ["15/2", "0 0 1\n1 0 1", "1", "1", "nothing", "drones 5", "drones -", "yes"])
        self.assertEqual(said(desk, "put 0, spare, missing"), ["2", "drones 0 5", "0"])

    def test_several_dark_parts(self):
        desk = Desk(spots("0,4 1,0 2,4 6,4 7,0 8,4"), (5, 1))
        self.assertEqual(said(desk, "put 9/4, dark, missing, put 5, dark"),
                         ["1", "3 0 1\n4 0 7/8", "1", "2", "3 0 1\n4 0 3/5"])
        self.assertEqual(said(desk, "watch, dark"), ["1", "nothing"])

    def test_the_fewest_are_those_for_the_ridge(self):
        desk = Desk(RIDGE, FOUR)
        self.assertEqual(said(desk, "watch, fewest, level 6, fewest, heap 0 11/2, fewest"),
                         ["2", "2", "3", "1", "4", "1"])

    def test_what(self):
        desk = Desk(RIDGE, FOUR)
        desk.say("put 2")
        before = desk.house().board()
        for line in NONE_AT_ALL + [
                nested(30), "", " ", "ridge ", " ridge", "Ridge", "ridge\n", "ridges", "undo ", " undo", "undo 1",
                "redo\n", "put 2 ", " put 3", "put  3", "put 3\n", "put 3\nput 1", "put 2",
                "put 5", "put -1", "put 6/2", "put 3/1", "put", "put x", "take 3", "take 2/1", "take", "drop 0",
                "drop 4", "drop 9", "drop -1", "drop 1/2", "level 4", "level 3", "level 0", "level",
                "heap 1 1", "heap 0 0", "heap 0 4", "heap 9 1", "heap 1", "split 0 0", "split 0 1", "split 4 1/2",
                "split 0", "nothing", "refused", "what", "fewest 1", "house", "board", "deeds",
                "twin", "log ", "dark parts", "watch\t", "thin.", "put " + "9" * 61, "put 1/" + "9" * 61,
                "drop " + "1" * 70, "~" * 8000, "put " + "1" * 7996, ["ridge"], ("ridge",), {"ridge": 1},
                ("put", (3, 1)), ["put 3"], b"ridge"]:
            self.assertEqual(desk.say(line), "what", line)
        self.assertEqual([desk.house().board(), desk.say("log")], [before, "put 2"])

    def test_asking_changes_nothing(self):
        desk = Desk(RIDGE, FOUR)
        said(desk, "put 2, put 3, undo")
        before = desk.house().board()
        for line in ASKED:
            self.assertEqual(desk.say(line), desk.say(line))
        self.assertEqual([desk.house().board(), desk.say("redo")], [before, "2"])


class Houses(unittest.TestCase):
    def test_the_house_itself(self):
        desk = Desk(PEAK, (5, 1))
        house = desk.house()
        self.assertIsInstance(house, House)
        self.assertIs(desk.house(), house)
        self.assertEqual([house.do(("put", (2, 1))), desk.say("drones"), desk.say("log"), desk.say("undo"),
                          house.drones(), house.deeds()], [1, "drones 2", "put 2", "0", (), ()])
        desk.say("watch")
        self.assertIs(desk.house(), house)
        self.assertEqual([house.watched(), house.undo(), desk.say("watched"), desk.say("redo")], [True, 0, "no", "1"])
        self.assertIsNot(Desk(PEAK, (5, 1)).house(), house)

    def test_twins_do_not_count(self):
        desk = Desk(PEAK, (5, 1))
        desk.house().twin().do(("put", (2, 1)))
        self.assertEqual(desk.say("drones"), "drones -")

    def test_by_the_words(self):
        rng = dice(1)
        for _ in range(25):
            ridge, h = some_case(rng, rng.randint(2, 7))
            desk, house = Desk(ridge, h), House(ridge, h)
            for _ in range(14):
                start, end = ridge[0][0], ridge[-1][0]
                value = rng.choice((("put", rng.choice(some_drones(rng, ridge, 1))),
                                    ("level", fraction(h[0] + rng.randint(0, 5) * h[1], h[1])),
                                    ("drop", rng.randint(0, 5)), ("take", rng.choice((start, end))),
                                    ("split", rng.randint(0, 3), (1, 2)),
                                    ("heap", rng.randint(0, 3), rng.choice(places("-1 -1/2 1/9"))), "undo", "redo",
                                    "watch", "thin"))
                line = value if isinstance(value, str) else deed_text(value)
                board = house.board()
                if value == "undo":
                    expected = str(house.undo()) if board["log"] else "refused"
                elif value == "redo":
                    expected = str(house.redo()) if board["back"] else "refused"
                elif value in ("watch", "thin"):
                    expected = str(house.watch() if value == "watch" else house.thin())
                else:
                    expected = str(house.do(value)) if is_deed(board, value) else "what"
                self.assertEqual(desk.say(line), expected, line)
                self.assertEqual(desk.house().board(), house.board())
            dark = "\n".join(" ".join((str(i), fraction_text(a), fraction_text(b))) for i, a, b in house.dark())
            self.assertEqual([desk.say(line) for line in ASKED], [
                spots_text("ridge", house.ridge()), fraction_text(house.height()), drones_text(house.drones()),
                drones_text(house.spare()), log_text(house.deeds()) or "nothing",
                "yes" if house.watched() else "no", str(house.missing()), str(house.fewest()[0]), dark or "nothing"])

    def test_numbers_are_written_whole(self):
        # Python itself writes only integers of some four thousand digits.
        long = 7 ** 6000
        desk = Desk(spots("0,0 1,0"), (1, 1))
        desk.house().do(("heap", 0, (-long, 1)))
        desk.house().do(("level", (long, 10 ** 4500)))
        height, log = desk.say("height"), desk.say("log")
        self.assertEqual([number_of(part) for part in height.split("/")], [long, 10 ** 4500])
        self.assertEqual(log, "heap 0 " + desk.say("ridge")[8:-4] + "\nlevel " + height)
        self.assertEqual([log[:8], number_of(log[8:log.index("\n")])], ["heap 0 -", long])


if __name__ == "__main__":
    unittest.main()
