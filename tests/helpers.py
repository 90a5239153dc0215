"""What the tests have in common."""

import random
from fractions import Fraction

NONE_AT_ALL = [
    None, True, False, 0, 1, -3, 10 ** 59, "", "1/2", "(1, 2)", (), [], {}, (1,), (1, 2, 3), [1, 2], (0, 0), (1, 0),
    (1, -2), (2, 4), (0, 2), (0, -1), (True, 1), (1, True), (False, 1), (None, 1), (1, None), ("1", 2), (1, "2"),
    ((1,), 2), ([1], 2), (1, (2,)), {1: 2}, {"u": 1, "e": 2}, ((1, 2), (1, 2), (1, 2)), [[1, 2], [1, 2]],
    ((((((1, 2),),),),),), "\t\n ~", [None, [True, {"a": (1, [2])}]],
]
"""Values that are no fractions, no spots, no ridges and no texts of any form."""


def nested(depth):
    """Tuples within one another, so deep."""
    value = (1, 2)
    for _ in range(depth):
        value = (value, value[0])
    return value


def frac(text):
    """The fraction that a text like -3/2 or 4 tells."""
    u, _, e = text.partition("/")
    return (int(u), int(e or "1"))


def spot(text):
    """The spot that a text like 1/2,3 tells."""
    x, y = text.split(",")
    return (frac(x), frac(y))


def spots(text):
    """The tuple of the spots with blanks between."""
    return tuple(spot(word) for word in text.split())


def dice(seed):
    """Numbers that look random and are the same in each run."""
    return random.Random(seed)


def some_fraction(rng, low=-12, high=12, most=6):
    """A fraction in lowest terms."""
    value = Fraction(rng.randint(low * most, high * most), rng.randint(1, most))
    return (value.numerator, value.denominator)


def some_ridge(rng, corners, high=8, most=3):
    """A ridge with so many corners."""
    x = Fraction(rng.randint(-5, 5))
    found = []
    for _ in range(corners):
        y = Fraction(rng.randint(0, high * most), rng.randint(1, most))
        found.append(((x.numerator, x.denominator), (y.numerator, y.denominator)))
        x += Fraction(rng.randint(1, 9), rng.randint(1, most))
    return tuple(found)


def exact(pair):
    """The number of Python's own that a fraction stands for."""
    return Fraction(pair[0], pair[1])


def told(value):
    """The fraction that a number of Python's own stands for."""
    return (value.numerator, value.denominator)
