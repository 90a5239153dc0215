"""A desk: a house to which lines of text are said."""

from ridgewatch.deeds import log_text, read_deed
from ridgewatch.errors import BadDeed, BadText, NothingDone
from ridgewatch.house import House
from ridgewatch.texts import drones_text, fraction_text, spots_text


def lines_or_nothing(text):
    """The text, or a word for it if there is none."""
    return text or "nothing"


def ridge_said(house):
    """The ridge."""
    return spots_text("ridge", house.ridge())


def height_said(house):
    """The height."""
    return fraction_text(house.height())


def drones_said(house):
    """The drones."""
    return drones_text(house.drones())


def spare_said(house):
    """The drones that could go."""
    return drones_text(house.spare())


def log_said(house):
    """The deeds done, one a line."""
    return lines_or_nothing(log_text(house.deeds()))


def dark_said(house):
    """The dark parts, one a line."""
    return lines_or_nothing("\n".join([
        f"{i} {fraction_text(a)} {fraction_text(b)}" for i, a, b in house.dark()]))


def watched_said(house):
    """Whether all is seen."""
    if house.watched():
        return "yes"
    return "no"


def missing_said(house):
    """How many drones are missing."""
    return str(house.missing())


def fewest_said(house):
    """The number of the fewest drones."""
    return str(house.fewest()[0])


def undo_said(house):
    """How many deeds the log has without the last one."""
    return str(house.undo())


def redo_said(house):
    """How many deeds the log has with the one taken back last."""
    return str(house.redo())


def watch_said(house):
    """How many drones were put."""
    return str(house.watch())


def thin_said(house):
    """How many drones were taken."""
    return str(house.thin())


ANSWERS = {
    "ridge": ridge_said, "height": height_said, "drones": drones_said, "spare": spare_said, "log": log_said,
    "dark": dark_said, "watched": watched_said, "missing": missing_said, "fewest": fewest_said, "undo": undo_said,
    "redo": redo_said, "watch": watch_said, "thin": thin_said,
}


def deed_said(house, line):
    """How many deeds the log has behind the deed that the line tells."""
    try:
        return str(house.do(read_deed(line)))
    except (BadText, BadDeed):
        return "what"


class Desk:
    """Has a house; what is said to it is answered by a text."""

    def __init__(self, ridge, height):
        self._house = House(ridge, height)

    def house(self):
        """The house itself."""
        return self._house

    def say(self, line):
        """The answer to any line."""
        if not isinstance(line, str):
            return "what"
        if line not in ANSWERS:
            return deed_said(self._house, line)
        answer = ANSWERS[line]
        try:
            return answer(self._house)
        except NothingDone:
            return "refused"
