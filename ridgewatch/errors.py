"""The errors of the package."""


def copied(value):
    """An equal value that shares no list and no dict with the one passed.

    It walks instead of calling itself: values may lie deeper in one another than calls may.
    """
    top = [value]
    places = [(top, 0)]
    tuples = []
    while places:
        holder, key = places.pop()
        part = holder[key]
        if isinstance(part, dict):
            holder[key] = {word: part[word] for word in part}
            places.extend([(holder[key], word) for word in part])
        elif isinstance(part, (list, tuple)):
            holder[key] = list(part)
            places.extend([(holder[key], k) for k in range(len(part))])
            if isinstance(part, tuple):
                tuples.append((holder, key))
    # Backwards, so that a tuple is closed only when all within it is.
    for holder, key in reversed(tuples):
        holder[key] = tuple(holder[key])
    return top[0]


class RidgeError(ValueError):
    """Any error of this package."""


class BadText(RidgeError):
    """A text is not written as it should be; place tells how far it is."""

    def __init__(self, place):
        RidgeError.__init__(self, "a text is not of the form asked for")
        self.place = copied(place)


class BadRidge(RidgeError):
    """A ridge is not as it should be."""

    def __init__(self, word):
        RidgeError.__init__(self, "a ridge is not as it should be")
        self.word = copied(word)


class BadPaper(RidgeError):
    """A paper is not as it should be."""

    def __init__(self, word):
        RidgeError.__init__(self, "a paper is not as it should be")
        self.word = copied(word)


class BadDeed(RidgeError):
    """What was to be done is no deed."""


class NotSeen(RidgeError):
    """Something is not seen."""


class TooLow(RidgeError):
    """A height is too low."""


class TooMany(RidgeError):
    """There are too many of something."""


class NothingDone(RidgeError):
    """There is nothing to take back, or to do again."""
