"""Boards: dicts of a ridge, a height above it and drones, with the deeds done to them and those taken back.

A board is never changed; what is done to it makes another one.
"""

from ridgewatch.drones import cover_for
from ridgewatch.errors import BadDeed, NothingDone
from ridgewatch.fractions import NOUGHT, ONE, added, compared, is_fraction, is_whole, lessened
from ridgewatch.ground import dark_parts, needless, sees_all
from ridgewatch.ridges import is_height, is_place, slopes_of, spot_of
from ridgewatch.shares import in_order
from ridgewatch.spots import height_at


def board_of(ridge, height, drones, first, log):
    """A board with these fields and nothing that may be done again."""
    return {"ridge": ridge, "height": height, "drones": drones, "first": first, "log": log, "back": ()}


def new_board(ridge, height):
    """The board of a ridge and a height with which it begins."""
    return board_of(ridge, height, (), (ridge, height), ())


def is_inner_share(value):
    """Whether any value is a fraction above 0 and below 1."""
    return is_fraction(value) and compared(NOUGHT, value) < 0 and compared(value, ONE) < 0


def is_number(value, least, most):
    """Whether any value is an integer from the least to the most."""
    return is_whole(value) and least <= value <= most


def heaped(corner, dy):
    """The corner with dy more below it."""
    return (corner[0], added(corner[1], dy))


def is_heap(board, i, dy):
    """Whether corner i can be heaped up by dy."""
    ridge = board["ridge"]
    if not is_number(i, 0, slopes_of(ridge)) or not is_fraction(dy) or dy == NOUGHT:
        return False
    return compared(heaped(ridge[i], dy)[1], board["height"]) < 0


def is_split(board, i, t):
    """Whether a new corner can stand on slope i at share t."""
    return is_number(i, 0, slopes_of(board["ridge"]) - 1) and is_inner_share(t)


def is_drop(board, i):
    """Whether corner i can be left out."""
    return is_number(i, 1, slopes_of(board["ridge"]) - 1)


def is_put(board, x):
    """Whether a drone can be set at x."""
    return is_place(board["ridge"], x) and x not in board["drones"]


def is_take(board, x):
    """Whether a drone that can go is at x."""
    return is_fraction(x) and x in board["drones"]


def is_level(board, h):
    """Whether the height can come to be h."""
    return is_height(board["ridge"], h) and h != board["height"]


ONE_PART = {"drop": is_drop, "put": is_put, "take": is_take, "level": is_level}
TWO_PARTS = {"heap": is_heap, "split": is_split}


def is_deed(board, value):
    """Whether any value is a deed for this board."""
    if not isinstance(value, tuple) or not value or not isinstance(value[0], str):
        return False
    word = value[0]
    if len(value) == 2 and word in ONE_PART:
        is_right = ONE_PART[word]
        return is_right(board, value[1])
    if len(value) == 3 and word in TWO_PARTS:
        is_right = TWO_PARTS[word]
        return is_right(board, value[1], value[2])
    return False


def changed_ridge(ridge, deed):
    """The ridge behind a deed."""
    word, i = deed[0], deed[1]
    if word == "heap":
        return ridge[:i] + (heaped(ridge[i], deed[2]),) + ridge[i + 1:]
    if word == "split":
        return ridge[:i + 1] + (spot_of(ridge, (i, deed[2])),) + ridge[i + 1:]
    if word == "drop":
        return ridge[:i] + ridge[i + 1:]
    return ridge


def changed_drones(drones, deed):
    """The drones behind a deed."""
    word, x = deed[0], deed[1]
    if word == "put":
        return in_order(drones + (x,))
    if word == "take":
        return tuple([drone for drone in drones if drone != x])
    return drones


def changed_height(height, deed):
    """The height behind a deed."""
    if deed[0] == "level":
        return deed[1]
    return height


def done(board, deed):
    """The board behind a deed."""
    if not is_deed(board, deed):
        raise BadDeed()
    return board_of(changed_ridge(board["ridge"], deed), changed_height(board["height"], deed),
                    changed_drones(board["drones"], deed), board["first"], board["log"] + (deed,))


def with_back(board, back):
    """The board with these deeds that may be done again."""
    other = {word: board[word] for word in board}
    other["back"] = back
    return other


def boards(board):
    """The list of the boards ahead of each deed of the log, and of this one, with nothing that may be done again."""
    ridge, height = board["first"]
    now = new_board(ridge, height)
    found = []
    for deed in board["log"]:
        found.append(now)
        now = done(now, deed)
    return found + [now]


def undone(board):
    """The board with the last deed of its log taken back."""
    log = board["log"]
    if not log:
        raise NothingDone()
    return with_back(boards(board)[-2], board["back"] + log[-1:])


def redone(board):
    """The board with the deed done again that was taken back last."""
    back = board["back"]
    if not back:
        raise NothingDone()
    return with_back(done(board, back[-1]), back[:-1])


def dark_now(board):
    """The parts of the ground that no drone sees."""
    return dark_parts(board["ridge"], board["height"], board["drones"])


def is_watched(board):
    """Whether there are no dark parts."""
    return sees_all(board["ridge"], board["height"], board["drones"])


def further(board):
    """The fewest places with drones at which, too, all is seen."""
    return cover_for(board["ridge"], board["height"], dark_now(board))


def how_many_further(board):
    """How many further drones it takes for all to be seen."""
    return len(further(board))


def idle(board):
    """The drones each of which could go by itself with nothing more dark."""
    drones = board["drones"]
    return tuple([drones[k] for k in needless(board["ridge"], board["height"], drones)])


def lower_by(board, i):
    """How much corner i stands above the straight way from the corner ahead to the one behind."""
    before, corner, behind = board["ridge"][i - 1:i + 2]
    return lessened(corner[1], height_at(before, behind, corner[0]))


def change_by(board, deed):
    """How many more further drones it takes behind the deed than ahead of it."""
    return how_many_further(done(board, deed)) - how_many_further(board)
