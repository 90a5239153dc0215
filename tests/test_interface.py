"""The interface: names, arguments, and the file in which each one is defined."""

import importlib
import inspect
import unittest

INTERFACE = {
    "errors": "RidgeError; BadText(place); BadRidge(word); BadPaper(word); BadDeed; NotSeen; TooLow; TooMany; "
              "NothingDone",
    "fractions": "is_fraction(value); fraction(u, e); added(x, y); lessened(x, y); multiplied(x, y); divided(x, y); "
                 "compared(x, y); least_of(some); greatest_of(some); summed(some); between(x, y, t); whole_below(x)",
    "spots": "is_spot(value); side_of(a, b, c); height_at(a, b, x); place_at(a, b, y); crossing(a, b, c, d); "
             "is_between(a, b, c); do_meet(a, b, c, d); spot_between(a, b, t); area_twice(spots)",
}


class Interface(unittest.TestCase):
    def test_each_name_stands_in_its_file_with_its_arguments(self):
        for file, names in INTERFACE.items():
            module = importlib.import_module("ridgewatch." + file)
            for told in names.split("; "):
                name, _, arguments = told.partition("(")
                found = getattr(module, name)
                self.assertEqual(found.__module__, module.__name__, told)
                if arguments or inspect.isfunction(found):
                    self.assertEqual(str(inspect.signature(found)), "(" + arguments, told)


if __name__ == "__main__":
    unittest.main()
