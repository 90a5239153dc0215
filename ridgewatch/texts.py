"""Fractions, ridges, rooms, ground spots, drones and surveys as texts; BadText tells where a text goes wrong."""

from ridgewatch.errors import BadText
from ridgewatch.fractions import is_fraction

DIGITS = "0123456789"
MOST_DIGITS = 60


def whole_text(n):
    """The text of an integer, written block by block: Python itself writes only integers of some thousand digits."""
    rest = abs(n)
    blocks = []
    while rest >= 10 ** 60:
        rest, block = divmod(rest, 10 ** 60)
        blocks.append(str(block).zfill(60))
    digits = "".join([str(rest)] + blocks[::-1])
    if n < 0:
        return "-" + digits
    return digits


def fraction_text(x):
    """The text of a fraction."""
    u, e = x
    if e == 1:
        return whole_text(u)
    return whole_text(u) + "/" + whole_text(e)


def line_text(word, parts):
    """A word and the texts behind it, - if there are none."""
    return " ".join([word] + (parts or ["-"]))


def spots_text(word, spots):
    """The text of a ridge or a room, as the word says."""
    return line_text(word, [f"{fraction_text(x)},{fraction_text(y)}" for x, y in spots])


def grounds_text(grounds):
    """The text of ground spots."""
    return line_text("at", [f"{i}:{fraction_text(t)}" for i, t in grounds])


def drones_text(drones):
    """The text of drones."""
    return line_text("drones", [fraction_text(x) for x in drones])


def survey_text(word, spots, more):
    """The text of a survey: a line of spots, then lines of ground spots and of drones."""
    lines = [spots_text(word, spots)]
    for kind, members in more:
        if kind == "at":
            lines.append(grounds_text(members))
        else:
            lines.append(drones_text(members))
    return "\n".join(lines)


def common_beginning(one, other):
    """How many signs both texts begin with in common."""
    many = 0
    for sign, like in zip(one, other):
        if sign != like:
            break
        many += 1
    return many


class Reader:
    """Goes through a text from its beginning; raises BadText where it can't go on.

    All signs ahead of at have been found right. Fractions that are not in lowest terms are let by at first, as they
    count only in a text that has the form to its end: wrong is the place of the first of them, None without any.
    """

    def __init__(self, text):
        if not isinstance(text, str):
            raise BadText(0)
        self.text = text
        self.at = 0
        self.wrong = None

    def sees_sign(self, sign):
        """Whether this sign comes next."""
        return self.text.startswith(sign, self.at)

    def sees_digit(self, ahead):
        """Whether a digit stands so many signs ahead."""
        sign = self.text[self.at + ahead:self.at + ahead + 1]
        return sign != "" and sign in DIGITS

    def pass_sign(self, sign):
        """Goes beyond this sign."""
        if not self.sees_sign(sign):
            raise BadText(self.at)
        self.at += 1

    def pass_word(self, words):
        """Goes beyond the one of the words, none of which begins another, that comes next; returns it."""
        rest = self.text[self.at:]
        for word in words:
            if rest.startswith(word):
                self.at += len(word)
                return word
        raise BadText(self.at + max([common_beginning(rest, word) for word in words]))

    def pass_end(self):
        """Sees to it that the text ends here, and that each fraction was in lowest terms."""
        if self.at < len(self.text):
            raise BadText(self.at)
        if self.wrong is not None:
            raise BadText(self.wrong)

    def whole_above(self):
        """Reads an integer from 1 on."""
        if self.sees_sign("0") or not self.sees_digit(0):
            raise BadText(self.at)
        many = 0
        while many < MOST_DIGITS and self.sees_digit(many):
            many += 1
        start = self.at
        self.at += many
        return int(self.text[start:self.at])

    def whole(self):
        """Reads an integer from 0 on."""
        if self.sees_sign("0"):
            self.at += 1
            return 0
        return self.whole_above()

    def signed(self):
        """Reads an integer, below 0 too."""
        if self.sees_sign("-"):
            self.at += 1
            return -self.whole_above()
        return self.whole()

    def ratio(self):
        """Reads a fraction."""
        start = self.at
        u = self.signed()
        if not self.sees_sign("/"):
            return (u, 1)
        self.at += 1
        e = self.whole_above()
        if self.wrong is None and (e == 1 or not is_fraction((u, e))):
            self.wrong = start
        return (u, e)

    def corner(self):
        """Reads a spot."""
        x = self.ratio()
        self.pass_sign(",")
        return (x, self.ratio())

    def ground(self):
        """Reads a ground spot."""
        i = self.whole()
        self.pass_sign(":")
        return (i, self.ratio())

    def several(self, one):
        """Reads one or more, parted by single blanks, each by the method that is passed."""
        found = [one()]
        while self.sees_sign(" "):
            self.at += 1
            found.append(one())
        return tuple(found)

    def spots_line(self):
        """Reads a line of spots."""
        word = self.pass_word(["ridge ", "room "])
        return (word.strip(), self.several(self.corner))

    def grounds(self):
        """Reads what stands behind the word at."""
        if self.sees_sign("-"):
            self.at += 1
            return ()
        return self.several(self.ground)

    def places(self):
        """Reads what stands behind the word drones."""
        # A - without a digit stands for none: ahead of a digit it begins a number.
        if self.sees_sign("-") and not self.sees_digit(1):
            self.at += 1
            return ()
        return self.several(self.ratio)

    def marks_line(self):
        """Reads a line of ground spots or of drones, as the word ahead says."""
        if self.pass_word(["at ", "drones "]) == "at ":
            return ("at", self.grounds())
        return ("drones", self.places())


def read_fraction(text):
    """The fraction that is written so."""
    reader = Reader(text)
    found = reader.ratio()
    reader.pass_end()
    return found


def read_spots(text):
    """The pair of the word and the spots that are written so."""
    reader = Reader(text)
    found = reader.spots_line()
    reader.pass_end()
    return found


def read_grounds(text):
    """The ground spots that are written so."""
    reader = Reader(text)
    reader.pass_word(["at "])
    found = reader.grounds()
    reader.pass_end()
    return found


def read_drones(text):
    """The drones that are written so."""
    reader = Reader(text)
    reader.pass_word(["drones "])
    found = reader.places()
    reader.pass_end()
    return found


def read_survey(text):
    """The triple of the word, the spots, and the lines behind them, that is written so."""
    reader = Reader(text)
    word, spots = reader.spots_line()
    more = []
    while reader.sees_sign("\n"):
        reader.at += 1
        more.append(reader.marks_line())
    reader.pass_end()
    return (word, spots, tuple(more))
