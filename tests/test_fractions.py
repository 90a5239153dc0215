"""Promise 1.1."""

import unittest
from fractions import Fraction

from helpers import NONE_AT_ALL, dice, exact, frac, nested, told
from ridgewatch.fractions import (
    added, between, compared, divided, fraction, greatest_of, is_fraction, least_of, lessened, multiplied, order_of,
    summed, turned, whole_below,
)


def pool():
    """Fractions of all sizes, below and above 0."""
    rng = dice(11)
    found = [Fraction(0), Fraction(1), Fraction(-1), Fraction(1, 2), Fraction(-1, 2), Fraction(7, 3), Fraction(-22, 7)]
    for digits in (1, 2, 6, 20, 60):
        for _ in range(6):
            bound = 10 ** digits - 1
            found.append(Fraction(rng.randint(-bound, bound), rng.randint(1, bound)))
    return found


class IsFraction(unittest.TestCase):
    def test_fractions(self):
        for value in [(0, 1), (1, 1), (-1, 1), (1, 2), (-3, 2), (10 ** 59 + 1, 10 ** 59), (7, 10 ** 200)]:
            self.assertIs(is_fraction(value), True, value)

    def test_others(self):
        for value in NONE_AT_ALL:
            self.assertIs(is_fraction(value), False, value)

    def test_edges(self):
        for value in [(0, 3), (2, 2), (6, 4), (-6, 4), (5, 0), (0, 0), (5, -1), (-5, -1), (True, True), (False, True),
                      (1, 2, 3), (1,), "ab", [1, 2], nested(1), nested(30), ((1, 2), 3), (10 ** 60, 10 ** 59)]:
            self.assertIs(is_fraction(value), False, value)


class Building(unittest.TestCase):
    def test_ordinary(self):
        for u, e, expected in [(6, -4, (-3, 2)), (0, -5, (0, 1)), (0, 7, (0, 1)), (-6, -4, (3, 2)), (8, 4, (2, 1)),
                               (1, -1, (-1, 1)), (10 ** 60, 10 ** 59, (10, 1))]:
            self.assertEqual(fraction(u, e), expected)

    def test_all_results_are_fractions(self):
        for x in pool():
            self.assertEqual(fraction(-6 * x.numerator, -6 * x.denominator), told(x))
            self.assertTrue(is_fraction(told(x)))


class Reckoning(unittest.TestCase):
    def test_two_of_the_pool(self):
        for x in pool():
            for y in pool():
                a, b = told(x), told(y)
                self.assertEqual(added(a, b), told(x + y))
                self.assertEqual(lessened(a, b), told(x - y))
                self.assertEqual(multiplied(a, b), told(x * y))
                self.assertEqual(compared(a, b), (x > y) - (x < y))
                if y:
                    self.assertEqual(divided(a, b), told(x / y))

    def test_compared_by_worth(self):
        self.assertEqual([compared(frac("-1/2"), frac("-1/3")), compared(frac("1/3"), frac("1/2")),
                          compared(frac("3"), frac("5/2")), compared(frac("2/7"), frac("2/7"))], [-1, -1, 1, 0])

    def test_divided_by_what_is_below_nought(self):
        self.assertEqual(divided((1, 2), (-1, 4)), (-2, 1))
        self.assertEqual(divided((0, 1), (-3, 4)), (0, 1))

    def test_between(self):
        for t in [Fraction(0), Fraction(1), Fraction(1, 3), Fraction(-2), Fraction(5, 2)]:
            for x in pool()[:12]:
                for y in pool()[6:20]:
                    self.assertEqual(between(told(x), told(y), told(t)), told(x + t * (y - x)))

    def test_whole_below(self):
        for x in pool():
            self.assertEqual(whole_below(told(x)), x.numerator // x.denominator)
        self.assertEqual([whole_below(frac(x)) for x in ("-3/2", "-2", "-1/9", "0", "1/9", "7/2")], [-2, -2, -1, 0, 0, 3])

    def test_turned(self):
        self.assertEqual([turned((3, 2)), turned((0, 1)), turned((-3, 2))], [(-3, 2), (0, 1), (3, 2)])


class Several(unittest.TestCase):
    def test_least_and_greatest(self):
        rng = dice(3)
        for _ in range(40):
            some = [rng.choice(pool()) for _ in range(rng.randint(1, 7))]
            values = tuple(told(x) for x in some)
            self.assertEqual(least_of(values), told(min(some)))
            self.assertEqual(greatest_of(values), told(max(some)))
            self.assertEqual(summed(values), told(sum(some, Fraction(0))))

    def test_single_and_equal_ones(self):
        self.assertEqual([least_of(((2, 3),)), greatest_of(((2, 3),)), summed(((2, 3),))], [(2, 3)] * 3)
        self.assertEqual([least_of(((2, 3),) * 3), greatest_of(((2, 3),) * 3), summed(((2, 3),) * 3)],
                         [(2, 3), (2, 3), (2, 1)])

    def test_sum_of_none(self):
        self.assertEqual(summed(()), (0, 1))

    def test_order_is_by_worth_and_keeps_equal_ones_in_order(self):
        rng = dice(5)
        for _ in range(40):
            rows = [tuple(told(Fraction(rng.randint(-3, 3), rng.randint(1, 3))) for _ in range(2))
                    for _ in range(rng.randint(0, 12))]
            expected = sorted(range(len(rows)), key=lambda k: [exact(x) for x in rows[k]])
            self.assertEqual(order_of(rows), expected)


if __name__ == "__main__":
    unittest.main()
