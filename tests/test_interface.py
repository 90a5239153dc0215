"""The interface: names, arguments, and the file in which each one is defined."""

import importlib
import inspect
import unittest

INTERFACE = {
    "errors": "RidgeError; BadText(place); BadRidge(word); BadPaper(word); BadDeed; NotSeen; TooLow; TooMany; "
              "NothingDone",
    "fractions": "is_fraction(value); fraction(u, e); added(x, y); lessened(x, y); multiplied(x, y); divided(x, y); "
                 "compared(x, y); least_of(some); greatest_of(some); summed(some); between(x, y, t); whole_below(x)",
    "spots": "is_spot(value); side_of(a, b, c); height_at(a, b, x); place_at(a, b, y); crossing(a, b, c, d); "
             "is_between(a, b, c); do_meet(a, b, c, d); spot_between(a, b, t); area_twice(spots)",
    "ridges": "judge_ridge(value); is_ridge(value); slopes_of(ridge); steepness(ridge, i); "
              "is_ground_spot(ridge, value); spot_of(ridge, ground); ground_at(ridge, x); first_form(ridge, ground); "
              "line_of(ridge); top_of(ridge); is_height(ridge, value); is_place(ridge, value); "
              "shifted(ridge, dx, dy); mirrored(ridge); stretched(ridge, a, b); sheared(ridge, s); "
              "mirrored_ground(ridge, ground); joined(one, other); cut(ridge, a, b); refined(ridge, grounds); "
              "plain(ridge); same_ground(one, other)",
    "texts": "fraction_text(x); read_fraction(text); spots_text(word, spots); read_spots(text); "
             "grounds_text(grounds); read_grounds(text); drones_text(drones); read_drones(text); "
             "survey_text(word, spots, more); read_survey(text)",
    "sight": "barring(ridge, h, x, g); sees(ridge, h, x, g); seen_by(ridge, h, drones, g); reach(ridge, h, g); "
             "bar_corners(ridge, h, g); judge_reach(ridge, h, g, value); common_reach(ridge, h, spots); "
             "first_apart(ridge, h, spots); are_apart(ridge, h, spots); left_to_right(ridge, h, spots)",
    "slopes": "slope_reach(ridge, h, i, t); left_pieces(ridge, h, i); right_pieces(ridge, h, i); "
              "end_on(ridge, h, i, c, t); first_left(ridge, h, i, x); last_right(ridge, h, i, x); "
              "seen_part(ridge, h, i, x); judge_part(ridge, h, i, x, value); covered_parts(ridge, h, i, drones); "
              "is_covered(ridge, h, i, drones); span_floor(ridge, h)",
    "drones": "whole_ground(ridge); next_drone(ridge, h, parts, x); cover(ridge, h); fewest(ridge, h); "
              "paper(ridge, h); judge_cover(ridge, h, value); judge_paper(ridge, h, value); cover_for(ridge, h, "
              "parts); fewest_for(ridge, h, parts); paper_for(ridge, h, parts); judge_cover_for(ridge, h, parts, "
              "value); judge_paper_for(ridge, h, parts, value); steepest(ridge); sure_step(ridge, h); "
              "most_drones(ridge, h)",
    "ground": "dark_parts(ridge, h, drones); dark_within(ridge, h, drones, parts); sees_all(ridge, h, drones); "
              "seen_parts(ridge, h, drones); layers(ridge, h, drones); watchers(ridge, h, drones, spot); "
              "width_of(ridge, parts); dark_width(ridge, h, drones); share_seen(ridge, h, drones); "
              "needless(ridge, h, drones); thinned(ridge, h, drones); alone_parts(ridge, h, drones, k); "
              "stretch_of(ridge, h, drones, k); gain_at(ridge, h, drones, x); best_place(ridge, h, drones, "
              "places); greedy_drones(ridge, h, places, k)",
    "rooms": "judge_room(value); is_room(value); area(room); place_in(room, spot); is_in(room, spot); "
             "reflex_corners(room); convex_corners(room); is_dentless(room); begun_at(room, i); home(room); "
             "same_room(one, other); moved_room(room, dx, dy); scaled_room(room, f); posed_room(room, t); "
             "pose_of(one, other); diagonals(room); cut_room(room, i, j)",
    "views": "sees_in(room, one, other); barred_at(room, one, other); judge_barred(room, one, other, value); "
             "wall_parts(room, camera); unlit_parts(room, cameras); lit_share(room, cameras); view(room, "
             "camera); view_share(room, camera); sees_room(room, camera); judge_view(room, camera, value); "
             "seen_from(room, cameras, spot); both_see(room, one, other); best_camera(room, cameras); "
             "needless_cameras(room, cameras)",
    "sides": "lead_of(side, spot); is_on(side, spot); inner_side(room, i); inner_sides(room); clipped(form, "
             "side); lies_in_form(form, spot); form_area(form)",
    "kernels": "is_in_kernel(room, spot); kernel(room); common_spot(room, walls); bars(room); judge_bars(room, "
               "value); walls_behind(room, spot); most_sides(room); shrunk_kernel(room, lead); deepest(room)",
    "triangles": "inner_ways(room); ears(room); triangles(room); judge_cut(room, value); next_pairs(cut); "
                 "way_through(cut, j, k); leaves_of(cut)",
    "cameras": "colours(cut); judge_colours(cut, value); covers(cut, corners); cameras(room); fewest_covering(cut); "
               "comb(k); tips(k); seeing_tip(k, j)",
    "choosing": "is_choice(value); choice_of_ridge(ridge, h, drones, spots); choice_of_room(room, cameras, spots); "
                "sees_spot(choice, spot); spots_seen(choice, cameras); unseen(choice); fewest_cameras(choice); "
                "judge_cameras(choice, value); most_hidden(choice); judge_hidden(choice, value); "
                "cases_for(choice, m); judge_cases(choice, m, value); verdict(choice); "
                "judge_verdict(choice, value); gap(choice); right_ends(ridge, h, spots)",
    "reducing": "spare_cameras(choice); easy_spots(choice); smaller(choice); needed_cameras(choice); "
                "most_seen(choice, k); fewest_for_each(choice, r)",
    "kept": "new_board(ridge, height); is_deed(board, value); done(board, deed); boards(board); undone(board); "
            "redone(board); dark_now(board); is_watched(board); further(board); how_many_further(board); "
            "idle(board); lower_by(board, i); change_by(board, deed)",
    "surveys": "survey(ridge, heights); numbers_of(ridge, heights); least_height(ridge, heights, k); "
               "one_height(ridge); like_others(ridge, height); report(ridge, height); "
               "judge_report(ridge, height, value); compared_ridges(one, other, height); ranked(ridges, height); "
               "crowded(ridge, height); seen_rows(ridge, heights, drones); combs(k)",
    "deeds": "deed_text(deed); read_deed(text); log_text(deeds); read_log(text)",
    "house": "House(ridge, height)",
    "desk": "Desk(ridge, height)",
}

METHODS = {
    "house.House": "board(); do(deed); undo(); redo(); deeds(); twin(); watch(); thin(); ridge(); height(); drones(); "
                   "dark(); watched(); missing(); spare(); fewest()",
    "desk.Desk": "house(); say(line)",
}


class Interface(unittest.TestCase):
    def test_each_name_stands_in_its_file_with_its_arguments(self):
        for file, names in INTERFACE.items():
            module = importlib.import_module("ridgewatch." + file)
            for told in names.split("; "):
                name, _, arguments = told.partition("(")
                found = getattr(module, name)
                self.assertEqual(found.__module__, module.__name__, told)
                if arguments or inspect.isfunction(found):
                    self.assertEqual(str(inspect.signature(found)), "(" + arguments, told)

    def test_each_method_stands_in_its_class_with_its_arguments(self):
        for place, names in METHODS.items():
            file, _, word = place.partition(".")
            kind = getattr(importlib.import_module("ridgewatch." + file), word)
            for told in names.split("; "):
                name, _, arguments = told.partition("(")
                method = vars(kind)[name]
                self.assertTrue(inspect.isfunction(method), told)
                found = str(inspect.signature(method))
                self.assertEqual(found.replace("(self, ", "(").replace("(self)", "()"), "(" + arguments, told)


if __name__ == "__main__":
    unittest.main()
