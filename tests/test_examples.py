"""The examples of the document's interface, as they stand there."""

import doctest
import unittest

FRACTIONS = """
>>> from ridgewatch.fractions import added, between, compared, divided, fraction, greatest_of, is_fraction, least_of, lessened, multiplied, summed, whole_below
>>> [fraction(6, -4), added((1, 2), (1, 3)), lessened((1, 2), (1, 3)), multiplied((2, 3), (3, 4)), divided((1, 2), (-1, 4)), compared((1, 2), (2, 3)), is_fraction((2, 4))]
[(-3, 2), (5, 6), (1, 6), (1, 2), (-2, 1), -1, False]
>>> [least_of(((1, 2), (1, 3))), greatest_of(((1, 2), (1, 3))), summed(()), between((0, 1), (3, 1), (1, 2)), whole_below((-3, 2)), whole_below((7, 2))]
[(1, 3), (1, 2), (0, 1), (3, 2), -2, 3]
"""

SPOTS = """
>>> from ridgewatch.spots import area_twice, crossing, do_meet, height_at, is_between, is_spot, place_at, side_of, spot_between
>>> O, A, B, C = ((0, 1), (0, 1)), ((2, 1), (0, 1)), ((2, 1), (2, 1)), ((0, 1), (2, 1))
>>> [is_spot(O), is_spot((0, 0)), side_of(O, A, B), side_of(O, B, A), side_of(O, A, A), height_at(O, B, (1, 2)), place_at(O, B, (5, 1))]
[True, False, 1, -1, 0, (1, 2), (5, 1)]
>>> [crossing(O, B, A, C), crossing(O, A, C, B), is_between(O, B, ((1, 1), (1, 1))), is_between(O, B, ((3, 1), (3, 1))), do_meet(O, B, A, C), do_meet(O, A, C, B), do_meet(O, A, A, B)]
[((1, 1), (1, 1)), None, True, False, True, False, True]
>>> [spot_between(O, B, (1, 4)), area_twice((O, A, B, C)), area_twice((C, B, A))]
[((1, 2), (1, 2)), (8, 1), (-4, 1)]
"""


class Examples(unittest.TestCase):
    def check(self, name, text):
        test = doctest.DocTestParser().get_doctest(text, {}, name, None, 0)
        said = []
        outcome = doctest.DocTestRunner(verbose=False).run(test, out=said.append)
        self.assertEqual(outcome.failed, 0, "".join(said))
        self.assertGreater(outcome.attempted, 1)

    def test_fractions(self):
        self.check("fractions", FRACTIONS)

    def test_spots(self):
        self.check("spots", SPOTS)


if __name__ == "__main__":
    unittest.main()
