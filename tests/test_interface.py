"""The interface: names, arguments, and the file in which each one is defined."""

import importlib
import inspect
import unittest

INTERFACE = {
    "errors": "RidgeError; BadText(place); BadRidge(word); BadPaper(word); BadDeed; NotSeen; TooLow; TooMany; "
              "NothingDone",
    "fractions": "is_fraction(value); fraction(u, e); added(x, y); lessened(x, y); multiplied(x, y); divided(x, y); "
                 "compared(x, y); least_of(some); greatest_of(some); summed(some); between(x, y, t); whole_below(x)",
    "spots": "is_spot(value); side_of(a, b, c); height_at(a, b, x); place_at(a, b, y); crossing(a, b, c, d); "
             "is_between(a, b, c); do_meet(a, b, c, d); spot_between(a, b, t); area_twice(spots)",
    "ridges": "judge_ridge(value); is_ridge(value); slopes_of(ridge); steepness(ridge, i); "
              "is_ground_spot(ridge, value); spot_of(ridge, ground); ground_at(ridge, x); first_form(ridge, ground); "
              "line_of(ridge); top_of(ridge); is_height(ridge, value); is_place(ridge, value); "
              "shifted(ridge, dx, dy); mirrored(ridge); stretched(ridge, a, b); sheared(ridge, s); "
              "mirrored_ground(ridge, ground); joined(one, other); cut(ridge, a, b); refined(ridge, grounds); "
              "plain(ridge); same_ground(one, other)",
    "texts": "fraction_text(x); read_fraction(text); spots_text(word, spots); read_spots(text); "
             "grounds_text(grounds); read_grounds(text); drones_text(drones); read_drones(text); "
             "survey_text(word, spots, more); read_survey(text)",
    "sight": "barring(ridge, h, x, g); sees(ridge, h, x, g); seen_by(ridge, h, drones, g); reach(ridge, h, g); "
             "bar_corners(ridge, h, g); judge_reach(ridge, h, g, value); common_reach(ridge, h, spots); "
             "first_apart(ridge, h, spots); are_apart(ridge, h, spots); left_to_right(ridge, h, spots)",
    "slopes": "slope_reach(ridge, h, i, t); left_pieces(ridge, h, i); right_pieces(ridge, h, i); "
              "end_on(ridge, h, i, c, t); first_left(ridge, h, i, x); last_right(ridge, h, i, x); "
              "seen_part(ridge, h, i, x); judge_part(ridge, h, i, x, value); covered_parts(ridge, h, i, drones); "
              "is_covered(ridge, h, i, drones); span_floor(ridge, h)",
}


class Interface(unittest.TestCase):
    def test_each_name_stands_in_its_file_with_its_arguments(self):
        for file, names in INTERFACE.items():
            module = importlib.import_module("ridgewatch." + file)
            for told in names.split("; "):
                name, _, arguments = told.partition("(")
                found = getattr(module, name)
                self.assertEqual(found.__module__, module.__name__, told)
                if arguments or inspect.isfunction(found):
                    self.assertEqual(str(inspect.signature(found)), "(" + arguments, told)


if __name__ == "__main__":
    unittest.main()
