"""Promise 14.1."""

import unittest

from helpers import NONE_AT_ALL, dice, nested, some_fraction
from ridgewatch.deeds import deed_text, log_text, read_deed, read_log
from ridgewatch.errors import BadText
from ridgewatch.texts import fraction_text

LONG = "9" * 60
DEEDS = [
    (("heap", 1, (-3, 2)), "heap 1 -3/2"), (("heap", 0, (4, 1)), "heap 0 4"), (("split", 0, (1, 2)), "split 0 1/2"),
    (("split", 12, (1, 3)), "split 12 1/3"),
    (("drop", 1), "drop 1"), (("drop", 0), "drop 0"), (("put", (2, 1)), "put 2"), (("put", (-7, 3)), "put -7/3"),
    (("take", (0, 1)), "take 0"),
    (("take", (5, 9)), "take 5/9"), (("level", (9, 2)), "level 9/2"), (("level", (-1, 1)), "level -1"),
    # What is read need not be a deed for some board.
    (("heap", 0, (0, 1)), "heap 0 0"), (("split", 3, (9, 2)), "split 3 9/2"),
]
WORDS = ("heap", "split", "drop", "put", "take", "level")


def some_deed(rng):
    """A deed of any kind."""
    word = rng.choice(WORDS)
    i, x = rng.choice((0, 1, 7, 10, 120)), some_fraction(rng)
    return (word, i) if word == "drop" else (word, i, x) if word in ("heap", "split") else (word, x)


def beginnings(text):
    """All that the text might go on as: for each number of its signs whether some deed's text begins so."""
    return [is_beginning(text[:k]) for k in range(len(text) + 1)]


def is_beginning(text):
    """Whether some deed's text begins with this one, sign by sign."""
    word, blank, rest = text.partition(" ")
    if not blank:
        return any(name.startswith(word) for name in WORDS)
    if word not in WORDS:
        return False
    if word in ("put", "take", "level"):
        return begins_fraction(rest)
    number, blank, rest = rest.partition(" ")
    if word == "drop" and blank:
        return False
    return begins_whole(number) and (not blank or (number != "" and begins_fraction(rest)))


def begins_whole(text):
    """Whether some integer from 0 on begins so."""
    if text in ("", "0"):
        return True
    return text[0] in "123456789" and all(sign in "0123456789" for sign in text) and len(text) <= 60


def begins_fraction(text):
    """Whether some fraction's form begins so."""
    above, stroke, below = text.partition("/")
    sign = above.startswith("-")
    digits = above[1:] if sign else above
    if not begins_whole(digits) or (sign and digits == "0"):
        return False
    return not stroke or (digits != "" and below != "0" and begins_whole(below))


def is_whole_text(text):
    """Whether the text has the form of a deed, whatever its fractions are worth."""
    parts = text.split(" ")
    many = {"heap": 3, "split": 3}.get(parts[0], 2)
    ends = [part[-1:] for part in parts[1:]]
    return is_beginning(text) and parts[0] in WORDS and len(parts) == many and all(end.isdigit() for end in ends)


def place_by_words(text):
    """The place that 14.1 tells for a text of one line; None if it is read."""
    if not is_whole_text(text):
        return max(k for k, right in enumerate(beginnings(text)) if right)
    part = text.split(" ")[-1]
    if text.startswith("drop"):
        return None
    x = part.partition("/")
    if x[1] and (x[2] == "1" or fraction_text(reduced(int(x[0]), int(x[2]))) != part):
        return len(text) - len(part)
    return None


def reduced(u, e):
    """u over e in lowest terms."""
    a, b = abs(u), e
    while b:
        a, b = b, a % b
    return (u // a, e // a)


class OneDeed(unittest.TestCase):
    def place(self, text, reader=read_deed):
        with self.assertRaises(BadText) as caught:
            reader(text)
        return caught.exception.place

    def test_written_and_read_again(self):
        for deed, text in DEEDS:
            self.assertEqual([deed_text(deed), read_deed(text)], [text, deed])

    def test_drawn_deeds(self):
        rng = dice(1)
        for _ in range(200):
            deed = some_deed(rng)
            self.assertEqual(read_deed(deed_text(deed)), deed)

    def test_long_integers(self):
        for text in (f"heap {LONG} -{LONG}", f"drop {LONG}", f"put {LONG}/{'1' + '0' * 59}",
                     f"level -{LONG}/{'1' + '0' * 59}"):
            self.assertEqual(deed_text(read_deed(text)), text)
        for text, place in [(f"drop {LONG}1", 65), (f"heap {LONG}1 1", 65), (f"heap 1 {LONG}1", 67),
                            (f"put -{LONG}1", 65), (f"put 1/{LONG}1", 66), (f"take 1{LONG}", 65),
                            (f"level {LONG}0/7", 66)]:
            self.assertEqual(self.place(text), place, text)

    def test_no_text(self):
        for value in NONE_AT_ALL + [nested(30), ("drop", 1), ["drop 1"], {"drop": 1}]:
            if not isinstance(value, str):
                self.assertEqual([self.place(value), self.place(value, read_log)], [0, 0], value)

    def test_places(self):
        for text, place in [
                ("", 0), ("d", 1), ("drop", 4), ("drop ", 5), ("drops 1", 4), ("Drop 1", 0), (" drop 1", 0),
                ("drop 1 ", 6), ("drop 1 2", 6), ("drop -1", 5), ("drop 01", 6), ("drop 1/2", 6),
                ("drop  1", 5), ("drop a", 5), ("drop 1\n", 6), ("heap", 4), ("heap 1", 6), ("heap 1 ", 7),
                ("heap 1 -", 8), ("heap -1 1", 5), ("heap 1 -0", 8), ("heap 1 1/", 9),
                ("heap 1 1/0", 9), ("heap 1 1/2 ", 10), ("heap 1/2 1", 6), ("heap 1  1", 7), ("split 0 1/02", 10),
                ("split 0 00", 9), ("split 00 1/2", 7), ("splat 1 2", 3), ("put", 3), ("put ", 4),
                ("put x", 4), ("put 2,3", 5), ("pit 2", 1), ("put 2 3", 5), ("taken 1", 4), ("take", 4), ("take -", 6),
                ("take --1", 6), ("level 1/2/3", 9), ("level +1", 6), ("levels", 5), ("lift", 1),
                ("heap1 1", 4), ("undo", 0), ("1/2", 0), ("put 1.5", 5), ("put 1\t", 5), ("~", 0), ("heap 1:1/2", 6)]:
            self.assertEqual(self.place(text), place, text)
            self.assertEqual(place_by_words(text), place, text)

    def test_fractions_not_in_lowest_terms(self):
        for text, place in [("put 2/4", 4), ("put 4/1", 4), ("put 0/5", 4), ("heap 1 -2/4", 7), ("heap 12 6/1", 8),
                            ("split 0 0/1", 8), ("take -3/3", 5), ("level 10/4", 6),
                            # Only texts of the form have such places.
                            ("put 2/4 ", 7), ("heap 1 2/4x", 10), ("level 4/1,", 9)]:
            self.assertEqual(self.place(text), place, text)

    def test_spoilt_texts(self):
        rng = dice(2)
        signs = "0123456789-/ ,:\nhdropsutakelv"
        kinds = {True: 0, False: 0}
        for _ in range(1500):
            text = deed_text(some_deed(rng))
            for _ in range(rng.randint(1, 2)):
                k = rng.randint(0, len(text))
                kind = rng.randrange(4)
                text = [text[:k] + rng.choice(signs) + text[k:], text[:k] + text[k + 1:],
                        text[:k] + rng.choice(signs) + text[k + 1:], text[:k]][kind]
            expected = place_by_words(text)
            kinds[expected is None] += 1
            if expected is None:
                self.assertEqual(deed_text(read_deed(text)), text)
            else:
                self.assertEqual(self.place(text), expected, text)
        self.assertGreater(min(kinds.values()), 50)


class Logs(unittest.TestCase):
    def place(self, text):
        with self.assertRaises(BadText) as caught:
            read_log(text)
        return caught.exception.place

    def test_written_and_read_again(self):
        for deeds, text in [((), ""), ((("drop", 1),), "drop 1"), ((("put", (2, 1)), ("drop", 1)), "put 2\ndrop 1"),
                            ((("take", (2, 1)), ("level", (9, 2)), ("heap", 3, (-1, 2))),
                             "take 2\nlevel 9/2\nheap 3 -1/2")]:
            self.assertEqual([log_text(deeds), read_log(text)], [text, deeds])
        self.assertIsInstance(read_log("drop 1"), tuple)

    def test_drawn_logs(self):
        rng = dice(3)
        for _ in range(40):
            deeds = tuple(some_deed(rng) for _ in range(rng.randint(0, 40)))
            self.assertEqual(read_log(log_text(deeds)), deeds)
            self.assertEqual(log_text(deeds).split("\n"), [deed_text(deed) for deed in deeds] or [""])

    def test_places(self):
        for text, place in [("\n", 0), ("drop 1\n", 7), ("\ndrop 1", 0), ("drop 1\n\ndrop 2", 7), ("drop 1\ndrop", 11),
                            ("drop 1\n drop 2", 7), ("drop 1 \ndrop 2", 6), ("drop 1\ndrop 2\n", 14),
                            ("put 1\nput 1/0", 12), ("put 1\nputt 2", 9), ("drop 1\r\ndrop 2", 6), (" ", 0),
                            ("nothing", 0), ("drop 1;drop 2", 6), ("heap 1\nput 2", 6), ("heap 1 1/\n", 9)]:
            self.assertEqual(self.place(text), place, text)

    def test_the_first_of_several_fractions(self):
        for text, place in [("put 2/4\nput 3/6", 4), ("put 1/2\nput 3/6", 12), ("put 1/2\nheap 1 3/1\ntake 2/2", 15),
                            ("take 7/7", 5),
                            # A later line that has not the form comes ahead of them.
                            ("put 2/4\nput", 11), ("put 2/4\n", 8), ("put 2/4\n\nput 1", 8)]:
            self.assertEqual(self.place(text), place, text)

    def test_a_deed_is_one_line(self):
        with self.assertRaises(BadText) as caught:
            read_deed("put 1\nput 2")
        self.assertEqual(caught.exception.place, 5)


if __name__ == "__main__":
    unittest.main()
