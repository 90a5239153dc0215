"""A house: the board of a ridge that stands, and what is done to it."""

from ridgewatch.kept import dark_now, done, further, how_many_further, idle, is_watched, new_board, redone, undone
from ridgewatch.surveys import fewest_told


class House:
    """A ridge, a height above it and drones, with the deeds done and those taken back."""

    def __init__(self, ridge, height):
        self._board = new_board(ridge, height)

    def board(self):
        """The board that stands; it stays as it is, whatever is done then."""
        return {word: self._board[word] for word in self._board}

    def do(self, deed):
        """Does a deed; returns how many the log has then."""
        self._board = done(self._board, deed)
        return len(self.deeds())

    def undo(self):
        """Takes the last deed back; returns how many the log has then."""
        self._board = undone(self._board)
        return len(self.deeds())

    def redo(self):
        """Does the deed again that was taken back last; returns how many the log has then."""
        self._board = redone(self._board)
        return len(self.deeds())

    def deeds(self):
        """The deeds done, in order."""
        return self._board["log"]

    def twin(self):
        """A house that stands alike and goes its own way."""
        other = House(self.ridge(), self.height())
        other._board = self.board()
        return other

    def watch(self):
        """Puts drones, as few as can be, till all is seen; returns how many."""
        places = further(self._board)
        for x in places:
            self.do(("put", x))
        return len(places)

    def thin(self):
        """Takes the least idle drone, again and again till there is none; returns how many."""
        many = 0
        spare = self.spare()
        while spare:
            self.do(("take", spare[0]))
            many += 1
            spare = self.spare()
        return many

    def ridge(self):
        """The ridge as it is now."""
        return self._board["ridge"]

    def height(self):
        """The height as it is now."""
        return self._board["height"]

    def drones(self):
        """The drones that are there now."""
        return self._board["drones"]

    def dark(self):
        """The parts of the ground that no drone sees."""
        return dark_now(self._board)

    def watched(self):
        """Whether there are no dark parts."""
        return is_watched(self._board)

    def missing(self):
        """How many further drones it takes for all to be seen."""
        return how_many_further(self._board)

    def spare(self):
        """The drones each of which could go by itself with nothing more dark."""
        return idle(self._board)

    def fewest(self):
        """The triple of the number of the fewest drones for the ridge, their places, and the paper for them."""
        return fewest_told(self.ridge(), self.height())
