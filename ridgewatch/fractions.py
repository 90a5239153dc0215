"""Exact fractions: pairs (u, e) in lowest terms, e from 1 on."""

from math import gcd

NOUGHT = (0, 1)
HALF = (1, 2)
ONE = (1, 1)


def is_whole(value):
    """Whether the value is an integer; True and False are none."""
    return isinstance(value, int) and not isinstance(value, bool)


def are_numbers(value, many):
    """Whether any value is an ascending tuple of unlike integers from 0 on, all below many."""
    if not isinstance(value, tuple):
        return False
    last = -1
    for number in value:
        if not is_whole(number) or not last < number < many:
            return False
        last = number
    return True


def is_fraction(value):
    """Whether any value is a fraction."""
    if not isinstance(value, tuple) or len(value) != 2:
        return False
    u, e = value
    return is_whole(u) and is_whole(e) and e >= 1 and gcd(u, e) == 1


def is_pair(value):
    """Whether any value is a pair of fractions."""
    return isinstance(value, tuple) and len(value) == 2 and is_fraction(value[0]) and is_fraction(value[1])


def fraction(u, e):
    """The fraction that is u over e; e is not 0."""
    common = gcd(u, e)
    if e < 0:
        common = -common
    return (u // common, e // common)


def added(x, y):
    """x and y together."""
    return fraction(x[0] * y[1] + y[0] * x[1], x[1] * y[1])


def lessened(x, y):
    """x less y."""
    return fraction(x[0] * y[1] - y[0] * x[1], x[1] * y[1])


def turned(x):
    """0 less x."""
    return (-x[0], x[1])


def amount(x):
    """x without its sign."""
    return (abs(x[0]), x[1])


def multiplied(x, y):
    """x times y."""
    return fraction(x[0] * y[0], x[1] * y[1])


def divided(x, y):
    """x over y; y is not (0, 1)."""
    return fraction(x[0] * y[1], x[1] * y[0])


def compared(x, y):
    """-1, 0 or 1 if x is less than y, y, or greater."""
    one, other = x[0] * y[1], y[0] * x[1]
    if one < other:
        return -1
    if one > other:
        return 1
    return 0


def least_of(some):
    """The least of the fractions."""
    best = some[0]
    for x in some:
        if compared(x, best) < 0:
            best = x
    return best


def greatest_of(some):
    """The greatest of the fractions."""
    best = some[0]
    for x in some:
        if compared(x, best) > 0:
            best = x
    return best


def summed(some):
    """The sum of the fractions; (0, 1) of none."""
    total = NOUGHT
    for x in some:
        total = added(total, x)
    return total


def between(x, y, t):
    """What lies t of the way from x to y."""
    return added(x, multiplied(t, lessened(y, x)))


def whole_below(x):
    """The greatest integer that is not greater than x."""
    return x[0] // x[1]


def compared_rows(one, other):
    """As compared, of two tuples of as many fractions: the first unlike ones decide."""
    for x, y in zip(one, other):
        outcome = compared(x, y)
        if outcome != 0:
            return outcome
    return 0


def order_of(rows):
    """The list of the numbers of the rows, tuples of fractions, ascending by worth; equal ones stay in order."""
    order = []
    for k in range(len(rows)):
        low, high = 0, len(order)
        while low < high:
            middle = (low + high) // 2
            if compared_rows(rows[order[middle]], rows[k]) <= 0:
                low = middle + 1
            else:
                high = middle
        order.insert(low, k)
    return order
