"""Promises 2.1 to 2.4."""

import re
import unittest
from math import gcd

from helpers import dice, number_of, some_fraction, spots
from ridgewatch.errors import BadText
from ridgewatch.texts import (
    drones_text, fraction_text, grounds_text, read_drones, read_fraction, read_grounds, read_spots, read_survey,
    spots_text, survey_text,
)

NO_TEXTS = [None, True, False, 0, 5, (), [], {}, ("1",), ["1"], {"ridge": 1}, (1, 2), [["0,0"]]]
SIXTY = "9" * 60
READERS = (read_fraction, read_spots, read_grounds, read_drones, read_survey)

RATIO = r"(?:-?[1-9]\d{0,59}|0)(?:/[1-9]\d{0,59})?"
WHOLE = r"(?:[1-9]\d{0,59}|0)"
SPOTS = rf"(?:ridge|room)(?: {RATIO},{RATIO})+"
GROUNDS = rf"at(?: -|(?: {WHOLE}:{RATIO})+)"
DRONES = rf"drones(?: -|(?: {RATIO})+)"
FORMS = {
    read_fraction: (RATIO, ["", "1"]),
    read_spots: (SPOTS, ["", "1", ",1", "1,1", " 1,1", "1,1"]),
    read_grounds: (GROUNDS, ["", "1", ":1", "1:1", " 1:1"]),
    read_drones: (DRONES, ["", "1", " 1"]),
    read_survey: (rf"{SPOTS}(?:\n(?:{GROUNDS}|{DRONES}))*",
                  ["", "1", ",1", "1,1", " 1,1", ":1", "1:1", " 1:1", " 1", "at -"]),
}
HEADS = ["ridge ", "room ", "at ", "drones "]


def place_by_words(reader, text):
    """The place that 2.1 and 2.3 tell, found by trying what may follow; None for a right text."""
    form, ends = FORMS[reader]
    ends = ends + [head[k:] + end for head in HEADS for k in range(len(head)) for end in ("1", "1,1", "1:1")]
    whole = re.compile(form)
    if not whole.fullmatch(text):
        for k in range(len(text), -1, -1):
            if any(whole.fullmatch(text[:k] + end) for end in ends):
                return k
    for found in re.finditer(r"(?<![0-9/])-?(\d+)/(\d+)", text):
        if not is_low(found.group(1), found.group(2)):
            return found.start()
    return None


def is_low(u, e):
    """Whether u/e may be written so."""
    return int(e) > 1 and gcd(int(u), int(e)) == 1


class Case(unittest.TestCase):
    def bad(self, reader, text, place):
        with self.assertRaises(BadText) as caught:
            reader(text)
        self.assertEqual(repr(caught.exception.place), repr(place), (reader.__name__, text))


class Fractions(Case):
    def test_written_and_read(self):
        for pair, text in [((-3, 2), "-3/2"), ((4, 1), "4"), ((0, 1), "0"), ((-7, 1), "-7"), ((1, 2), "1/2"),
                           ((10, 7), "10/7"), ((int(SIXTY), 1), SIXTY), ((-int(SIXTY), 10 ** 59), f"-{SIXTY}/1" + "0" * 59)]:
            self.assertEqual(fraction_text(pair), text)
            self.assertEqual(repr(read_fraction(text)), repr(pair))

    def test_bad_ones(self):
        for text, place in [
                ("", 0), ("-", 1), ("+1", 0), (" 1", 0), ("1 ", 1), ("1\n", 1), ("\t1", 0), ("x", 0), ("1x", 1),
                ("01", 1), ("00", 1), ("-0", 1), ("-01", 1), ("--1", 1), ("1-", 1), ("1/", 2), ("1/0", 2), ("1/02", 2),
                ("1/-2", 2), ("1/x", 2), ("1/2/3", 3), ("1/2 ", 3), ("1/2\n", 3), ("/2", 0), ("0/", 2), ("0/0", 2),
                ("1//2", 2), ("1.5", 1), ("1,5", 1), ("1_0", 1), ("one", 0),
                ("2/4", 0), ("1/1", 0), ("0/1", 0), ("0/5", 0), ("-6/4", 0), ("5/1", 0), ("-1/1", 0)]:
            self.bad(read_fraction, text, place)

    def test_digits(self):
        self.bad(read_fraction, SIXTY + "9", 60)
        self.bad(read_fraction, "-" + SIXTY + "9", 61)
        self.bad(read_fraction, SIXTY + "99/7", 60)
        self.bad(read_fraction, "1/" + SIXTY + "0", 62)
        self.bad(read_fraction, "7/" + "1" + "0" * 60, 62)
        self.bad(read_fraction, "-7/" + SIXTY + "9", 63)
        self.bad(read_fraction, SIXTY + "/" + SIXTY, 0)
        self.assertEqual(read_fraction("1/" + SIXTY), (1, int(SIXTY)))
        self.bad(read_fraction, "9" * 8000, 60)

    def test_as_many_digits_as_there_are(self):
        # Python itself writes only integers of some four thousand digits.
        for u, e in ((3 ** 12000, 1), (-3 ** 12000, 2 ** 20000), (-10 ** 6000, 10 ** 60 + 1), (10 ** 60, 10 ** 120 - 1), (10 ** 59, 10 ** 60 - 1), (-10 ** 120 - 7, 1)):
            above, _, below = fraction_text((u, e)).partition("/")
            self.assertEqual([above.startswith("-"), number_of(above.lstrip("-")), number_of(below or "1")], [u < 0, abs(u), e])
            self.assertNotEqual(above.lstrip("-")[0], "0")

    def test_no_texts(self):
        for reader in READERS:
            for value in NO_TEXTS:
                self.bad(reader, value, 0)


class Lines(Case):
    def test_spots(self):
        for word in ("ridge", "room"):
            for text in ["0,0", "0,0 2,7/2 4,-1", "-1/2,-3 5,5 5,5", f"{SIXTY},1/{SIXTY} -{SIXTY},0"]:
                self.assertEqual(spots_text(word, spots(text)), f"{word} {text}")
                self.assertEqual(repr(read_spots(f"{word} {text}")), repr((word, spots(text))))

    def test_bad_spots(self):
        for text, place in [
                ("", 0), ("r", 1), ("ri", 2), ("ro", 2), ("roo", 3), ("rooms 0,0", 4), ("rx", 1), ("Ridge 0,0", 0),
                ("ridge", 5), ("room", 4), ("ridge ", 6), ("ridge  0,0", 6), (" ridge 0,0", 0), ("ridge\t0,0", 5),
                ("ridge 0", 7), ("ridge 0,", 8), ("ridge 0,-", 9), ("ridge 0,-0", 9), ("ridge 0;0", 7),
                ("ridge 0, 0", 8), ("ridge 0 ,0", 7), ("ridge 0,0 ", 10), ("ridge 0,0  1,1", 10), ("ridge 0,0\n", 9),
                ("ridge 0,0,0", 9), ("ridge 0,0 1", 11), ("ridge -", 7), ("ridge 00,0", 7), ("ridge 0,01", 9),
                ("ridge 1/,0", 8), ("ridge 1/0,0", 8), ("ridge 0,0\nat -", 9), ("at -", 0), ("room 0,0 x", 9),
                ("ridge 0,0 2/4,1", 10), ("ridge 2/4,3/1", 6), ("ridge 1/2,3/1", 10), ("room 0,0/3 2/2,1", 7),
                ("ridge 0,0 -2/4,1", 10), ("ridge 2/4,1 ", 12), ("ridge 2/4,1x", 11), ("ridge 4/4,", 10)]:
            self.bad(read_spots, text, place)
        self.bad(read_spots, f"ridge 0,{SIXTY}9", 68)
        self.bad(read_spots, f"ridge -{SIXTY}9,0", 67)

    def test_grounds(self):
        for grounds, text in [((), "at -"), (((0, (1, 2)), (1, (0, 1))), "at 0:1/2 1:0"), (((0, (-5, 3)),), "at 0:-5/3"),
                              (((int(SIXTY), (7, 1)),) * 2, f"at {SIXTY}:7 {SIXTY}:7")]:
            self.assertEqual(grounds_text(grounds), text)
            self.assertEqual(repr(read_grounds(text)), repr(grounds))

    def test_bad_grounds(self):
        for text, place in [
                ("", 0), ("a", 1), ("at", 2), ("at ", 3), ("at  -", 3), ("at --", 4), ("at - ", 4), ("at -1:0", 4),
                ("at - 0:1", 4), ("at -\n", 4), ("at 0", 4), ("at 0:", 5), ("at 00:1", 4), ("at 01:1", 4),
                ("at +1:1", 3), ("at 0:1 ", 7), ("at 0:1  1:1", 7), ("at 0:1 -", 7), ("at 0:1 -1:0", 7), ("at 0:-0", 6),
                ("at 0/1:1", 4), ("at 0;1", 4), ("at 0:1:1", 6), ("att 0:1", 2), ("at 0:2/4", 5), ("at 0:1/2 1:3/1", 11),
                ("at 0:3/1 1:2/4", 5), ("at 0:2/4 1:", 11), ("drones -", 0), ("at 0:1\nat -", 6)]:
            self.bad(read_grounds, text, place)
        self.bad(read_grounds, f"at {SIXTY}9:1", 63)

    def test_drones(self):
        for drones, text in [((), "drones -"), (((1, 2), (3, 1)), "drones 1/2 3"), (((-5, 1), (-5, 1)), "drones -5 -5"),
                             (((0, 1),), "drones 0")]:
            self.assertEqual(drones_text(drones), text)
            self.assertEqual(repr(read_drones(text)), repr(drones))

    def test_bad_drones(self):
        for text, place in [
                ("", 0), ("drone", 5), ("drones", 6), ("drones ", 7), ("drones  1", 7), ("drones -0", 8),
                ("drones - ", 8), ("drones - 1", 8), ("drones --", 8), ("drones -x", 8), ("drones -\n", 8),
                ("drones 1 02", 10), ("drones 1 ", 9), ("drones 1 -", 10), ("drones 1 -0", 10), ("drones 1\n", 8),
                ("drones 1/2/3", 10), ("drones 2/4", 7), ("drones 1/2 -2/4", 11), ("drones 3/1 x", 11),
                ("drones -/2", 8), ("dronesx", 6), ("at -", 0)]:
            self.bad(read_drones, text, place)


class Surveys(Case):
    RIDGE = spots("0,0 2,7/2 4,-1")

    def test_written_and_read(self):
        for word in ("ridge", "room"):
            for more in [(), (("at", ()),), (("drones", ()),), (("drones", ((2, 1),)), ("at", ())),
                         (("at", ((0, (1, 2)), (3, (1, 1)))), ("at", ((0, (0, 1)),)), ("drones", ((-1, 2), (0, 1))))]:
                text = survey_text(word, self.RIDGE, more)
                self.assertEqual(repr(read_survey(text)), repr((word, self.RIDGE, more)))
                self.assertEqual(len(text.split("\n")), 1 + len(more))
        self.assertEqual(survey_text("ridge", self.RIDGE, (("drones", ((2, 1),)), ("at", ()))),
                         "ridge 0,0 2,7/2 4,-1\ndrones 2\nat -")

    def test_bad_surveys(self):
        for text, place in [
                ("", 0), ("ridge 0,0\n", 10), ("\nridge 0,0", 0), ("ridge 0,0\n\nat -", 10), ("ridge 0,0\nx", 10),
                ("ridge 0,0\na", 11), ("ridge 0,0\nat", 12), ("ridge 0,0\nat -\n", 15), ("ridge 0,0 \nat -", 10),
                ("ridge 0,0\nat -\nroom 0,0", 15), ("ridge 0,0\nat - ", 14), ("ridge 0,0\ndrones -\ndrones -5\nat -1:1", 33),
                ("ridge 0,0\nridge 0,0", 10), ("at -", 0), ("ridge 0,0\r\nat -", 9), ("ridge 0,0\n at -", 10),
                ("ridge 0,0\nat 0:2/4\ndrones 3/1", 15), ("ridge 0,0\nat 0:1/2\ndrones 3/1", 26),
                ("ridge 2/4,0\nat 0:2/4\ndrones 3/1", 6), ("ridge 2/4,0\nat 0:2/4\ndrones 3/", 30),
                ("ridge 0,0\ndrones -0", 18)]:
            self.bad(read_survey, text, place)


class ForAll(Case):
    def texts(self, rng):
        """A right text for each reader."""
        def row(many):
            return tuple(some_fraction(rng) for _ in range(many))

        def grounds():
            return tuple((rng.randint(0, 30), x) for x in row(rng.randint(0, 3)))

        corners = tuple(zip(row(3), row(3)))[:rng.randint(1, 3)]
        word = rng.choice(("ridge", "room"))
        more = tuple(rng.choice((("at", grounds()), ("drones", row(rng.randint(0, 3))))) for _ in range(rng.randint(0, 3)))
        return [(read_fraction, fraction_text(row(1)[0])), (read_spots, spots_text(word, corners)),
                (read_grounds, grounds_text(grounds())), (read_drones, drones_text(row(rng.randint(0, 4)))),
                (read_survey, survey_text(word, corners, more))]

    def written(self, reader, found):
        if reader is read_fraction:
            return fraction_text(found)
        if reader is read_grounds:
            return grounds_text(found)
        if reader is read_drones:
            return drones_text(found)
        return (spots_text if reader is read_spots else survey_text)(*found)

    def check(self, reader, text):
        place = place_by_words(reader, text)
        if place is None:
            self.assertEqual(self.written(reader, reader(text)), text)
        else:
            self.bad(reader, text, place)

    def test_right_texts(self):
        rng = dice(1)
        for _ in range(60):
            for reader, text in self.texts(rng):
                self.assertIsNone(place_by_words(reader, text), text)
                self.check(reader, text)

    def test_a_sign_put_in_left_out_or_exchanged_and_texts_cut_short(self):
        rng = dice(2)
        for _ in range(150):
            for reader, text in self.texts(rng):
                k = rng.randint(0, len(text))
                sign = rng.choice("0123456789-/,: \nx")
                for other in (text[:k] + sign + text[k:], text[:k] + text[k + 1:], text[:k] + sign + text[k + 1:], text[:k]):
                    self.check(reader, other)

    def test_each_text_by_each_reader(self):
        rng = dice(3)
        for _ in range(20):
            for _, text in self.texts(rng):
                for reader in READERS:
                    self.check(reader, text)

    def test_short_texts(self):
        signs = "-/01 2"
        texts = [""]
        for _ in range(4):
            texts = texts + [text + sign for text in texts if len(text) == len(texts[-1]) for sign in signs]
        for text in texts:
            self.check(read_fraction, text)
            self.check(read_drones, "drones " + text)


if __name__ == "__main__":
    unittest.main()
