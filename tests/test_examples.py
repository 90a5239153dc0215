"""The examples of the document's interface, as they stand there."""

import doctest
import os
import unittest

from ridgewatch.errors import BadText

FRACTIONS = """
>>> from ridgewatch.fractions import added, between, compared, divided, fraction, greatest_of, is_fraction, least_of, lessened, multiplied, summed, whole_below
>>> [fraction(6, -4), added((1, 2), (1, 3)), lessened((1, 2), (1, 3)), multiplied((2, 3), (3, 4)), divided((1, 2), (-1, 4)), compared((1, 2), (2, 3)), is_fraction((2, 4))]
[(-3, 2), (5, 6), (1, 6), (1, 2), (-2, 1), -1, False]
>>> [least_of(((1, 2), (1, 3))), greatest_of(((1, 2), (1, 3))), summed(()), between((0, 1), (3, 1), (1, 2)), whole_below((-3, 2)), whole_below((7, 2))]
[(1, 3), (1, 2), (0, 1), (3, 2), -2, 3]
"""

SPOTS = """
>>> from ridgewatch.spots import area_twice, crossing, do_meet, height_at, is_between, is_spot, place_at, side_of, spot_between
>>> O, A, B, C = ((0, 1), (0, 1)), ((2, 1), (0, 1)), ((2, 1), (2, 1)), ((0, 1), (2, 1))
>>> [is_spot(O), is_spot((0, 0)), side_of(O, A, B), side_of(O, B, A), side_of(O, A, A), height_at(O, B, (1, 2)), place_at(O, B, (5, 1))]
[True, False, 1, -1, 0, (1, 2), (5, 1)]
>>> [crossing(O, B, A, C), crossing(O, A, C, B), is_between(O, B, ((1, 1), (1, 1))), is_between(O, B, ((3, 1), (3, 1))), do_meet(O, B, A, C), do_meet(O, A, C, B), do_meet(O, A, A, B)]
[((1, 1), (1, 1)), None, True, False, True, False, True]
>>> [spot_between(O, B, (1, 4)), area_twice((O, A, B, C)), area_twice((C, B, A))]
[((1, 2), (1, 2)), (8, 1), (-4, 1)]
"""

RIDGES = """
>>> from ridgewatch.ridges import cut, first_form, ground_at, is_ground_spot, is_height, is_place, joined, judge_ridge, line_of, mirrored, mirrored_ground, plain, refined, same_ground, sheared, shifted, slopes_of, spot_of, steepness, stretched, top_of
>>> PEAK = (((0, 1), (0, 1)), ((2, 1), (4, 1)), ((4, 1), (0, 1)))
>>> [judge_ridge(PEAK), judge_ridge(PEAK[:1]), judge_ridge((PEAK[0], (1, 2))), judge_ridge(PEAK[::-1]), slopes_of(PEAK), steepness(PEAK, 0), steepness(PEAK, 1)]
[None, ('form',), ('corner', 1), ('ascend', 1), 2, (2, 1), (-2, 1)]
>>> [spot_of(PEAK, (0, (1, 4))), ground_at(PEAK, (3, 1)), ground_at(PEAK, (2, 1)), ground_at(PEAK, (4, 1)), ground_at(PEAK, (5, 1)), first_form(PEAK, (0, (1, 1))), is_ground_spot(PEAK, (2, (0, 1)))]
[((1, 2), (1, 1)), (1, (1, 2)), (1, (0, 1)), (1, (1, 1)), None, (1, (0, 1)), False]
>>> [line_of(PEAK), top_of(PEAK), mirrored(PEAK)[0], mirrored_ground(PEAK, (0, (1, 4))), stretched(PEAK, (1, 2), (3, 1))[1], sheared(PEAK, (1, 1))[2], joined(PEAK, PEAK)[3]]
[((0, 1), (4, 1)), (4, 1), ((-4, 1), (0, 1)), (1, (3, 4)), ((1, 1), (12, 1)), ((4, 1), (4, 1)), ((6, 1), (4, 1))]
>>> [cut(PEAK, (1, 1), (2, 1)), refined(PEAK, ((0, (1, 2)), (1, (0, 1)))), plain(refined(PEAK, ((0, (1, 2)),))) == PEAK, same_ground(PEAK, shifted(PEAK, (0, 1), (1, 1))), is_height(PEAK, (4, 1)), is_height(PEAK, (9, 2)), is_place(PEAK, (4, 1))]
[(((1, 1), (2, 1)), ((2, 1), (4, 1))), (((0, 1), (0, 1)), ((1, 1), (2, 1)), ((2, 1), (4, 1)), ((4, 1), (0, 1))), True, False, False, True, True]
"""

TEXTS = r"""
>>> from ridgewatch.texts import drones_text, fraction_text, grounds_text, read_drones, read_fraction, read_grounds, read_spots, read_survey, spots_text, survey_text
>>> [fraction_text((-3, 2)), fraction_text((4, 1)), read_fraction("-3/2"), read_fraction("0")]
['-3/2', '4', (-3, 2), (0, 1)]
>>> RIDGE = (((0, 1), (0, 1)), ((2, 1), (7, 2)), ((4, 1), (-1, 1)))
>>> [spots_text("ridge", RIDGE), read_spots("room 0,0 2,0 1,5/2"), grounds_text(((0, (1, 2)), (1, (0, 1)))), read_grounds("at -"), drones_text(((1, 2), (3, 1))), read_drones("drones 1/2 3")]
['ridge 0,0 2,7/2 4,-1', ('room', (((0, 1), (0, 1)), ((2, 1), (0, 1)), ((1, 1), (5, 2)))), 'at 0:1/2 1:0', (), 'drones 1/2 3', ((1, 2), (3, 1))]
>>> text = survey_text("ridge", RIDGE, (("drones", ((2, 1),)), ("at", ())))
>>> [text.split("\n"), read_survey(text) == ("ridge", RIDGE, (("drones", ((2, 1),)), ("at", ())))]
[['ridge 0,0 2,7/2 4,-1', 'drones 2', 'at -'], True]
>>> place_of(lambda: read_spots("ridge 0,0 2/4,1"))
10
>>> place_of(lambda: read_drones("drones 1 02"))
10
"""

SIGHT = """
>>> from ridgewatch.sight import are_apart, bar_corners, barring, common_reach, first_apart, judge_reach, left_to_right, reach, seen_by, sees
>>> RIDGE = (((0, 1), (2, 1)), ((2, 1), (0, 1)), ((4, 1), (2, 1)), ((6, 1), (0, 1)))
>>> H, LOW, SIDE = (3, 1), (0, (1, 1)), (2, (1, 2))
>>> [sees(RIDGE, H, (0, 1), SIDE), barring(RIDGE, H, (0, 1), SIDE), sees(RIDGE, H, (3, 1), SIDE), seen_by(RIDGE, H, [(6, 1), (0, 1), (3, 1)], SIDE)]
[False, (2,), True, ((6, 1), (3, 1))]
>>> [reach(RIDGE, H, LOW), bar_corners(RIDGE, H, LOW), reach(RIDGE, H, SIDE), bar_corners(RIDGE, H, SIDE), reach(RIDGE, H, (2, (0, 1)))]
[((0, 1), (5, 1)), (None, 2), ((3, 1), (6, 1)), (2, None), ((0, 1), (6, 1))]
>>> [judge_reach(RIDGE, H, LOW, ((0, 1), (5, 1))), judge_reach(RIDGE, H, LOW, ((0, 1), (6, 1))), judge_reach(RIDGE, H, LOW, ((1, 1), (6, 1))), judge_reach(RIDGE, H, LOW, None)]
[None, ('right',), ('left',), ('form',)]
>>> [common_reach(RIDGE, H, [LOW, SIDE]), first_apart(RIDGE, H, [LOW, SIDE]), are_apart(RIDGE, H, [LOW]), left_to_right(RIDGE, H, [SIDE, LOW])]
[((3, 1), (5, 1)), None, True, [(0, (1, 1)), (2, (1, 2))]]
>>> DEEP = (((0, 1), (4, 1)), ((1, 1), (0, 1)), ((2, 1), (4, 1)), ((3, 1), (0, 1)), ((4, 1), (4, 1)))
>>> [reach(DEEP, (5, 1), (0, (1, 1))), reach(DEEP, (5, 1), (2, (1, 1))), first_apart(DEEP, (5, 1), [(0, (1, 1)), (2, (1, 1))]), common_reach(DEEP, (5, 1), [(0, (1, 1)), (2, (1, 1))])]
[((0, 1), (9, 4)), ((7, 4), (4, 1)), None, ((7, 4), (9, 4))]
"""

SLOPES = """
>>> from ridgewatch.slopes import covered_parts, end_on, first_left, is_covered, judge_part, last_right, left_pieces, right_pieces
>>> from ridgewatch.slopes import seen_part, slope_reach, span_floor
>>> RIDGE = (((0, 1), (2, 1)), ((2, 1), (0, 1)), ((4, 1), (2, 1)), ((6, 1), (0, 1)))
>>> H = (3, 1)
>>> [slope_reach(RIDGE, H, 2, (0, 1)), slope_reach(RIDGE, H, 1, (1, 1)), slope_reach(RIDGE, H, 0, (1, 1)), span_floor(RIDGE, H)]
[((3, 1), (6, 1)), ((0, 1), (5, 1)), ((0, 1), (5, 1)), (1, 1)]
>>> [left_pieces(RIDGE, H, 1), right_pieces(RIDGE, H, 1), left_pieces(RIDGE, H, 2), right_pieces(RIDGE, H, 0)]
[(((0, 1), (1, 1), None),), (((0, 1), (1, 1), 2),), (((0, 1), (1, 1), 2),), (((0, 1), (2, 3), None), ((2, 3), (1, 1), 2))]
>>> [end_on(RIDGE, H, 0, 2, (1, 1)), end_on(RIDGE, H, 2, 2, (1, 3)), end_on(RIDGE, H, 1, None, (0, 1))]
[(5, 1), (3, 1), None]
>>> [first_left(RIDGE, H, 2, (3, 1)), first_left(RIDGE, H, 2, (2, 1)), last_right(RIDGE, H, 0, (6, 1)), last_right(RIDGE, H, 0, (5, 1))]
[(0, 1), None, (2, 3), (1, 1)]
>>> [seen_part(RIDGE, H, 0, (6, 1)), seen_part(RIDGE, H, 2, (2, 1)), judge_part(RIDGE, H, 0, (6, 1), ((0, 1), (1, 1))), judge_part(RIDGE, H, 2, (2, 1), None), judge_part(RIDGE, H, 2, (2, 1), 5)]
[((0, 1), (2, 3)), None, ('part',), None, ('form',)]
>>> [covered_parts(RIDGE, H, 0, [(6, 1)]), covered_parts(RIDGE, H, 0, [(6, 1), (5, 1)]), is_covered(RIDGE, H, 0, [(6, 1)]), is_covered(RIDGE, H, 2, [(0, 1), (4, 1)])]
[(((0, 1), (2, 3)),), (((0, 1), (1, 1)),), False, True]
"""

DRONES = """
>>> from ridgewatch.drones import cover, cover_for, fewest, fewest_for, judge_cover, judge_cover_for, judge_paper, judge_paper_for, most_drones, next_drone
>>> from ridgewatch.drones import paper, paper_for, steepest, sure_step, whole_ground
>>> HILL = tuple([((x, 1), (y, 1)) for x, y in ((0, 0), (2, 2), (4, 0))])
>>> TWO = tuple([((x, 1), (y, 1)) for x, y in ((0, 4), (1, 0), (2, 4), (6, 4), (7, 0), (8, 4))])
>>> [cover(HILL, (3, 1)), fewest(HILL, (3, 1)), paper(HILL, (3, 1)), whole_ground(HILL)]
[((3, 1),), 1, ((0, (1, 2)),), ((0, (0, 1), (1, 1)), (1, (0, 1), (1, 1)))]
>>> [cover(TWO, (5, 1)), paper(TWO, (5, 1)), next_drone(TWO, (5, 1), whole_ground(TWO), (9, 4)), next_drone(TWO, (5, 1), whole_ground(TWO), (8, 1))]
[((9, 4), (8, 1)), ((0, (1, 2)), (3, (1, 2))), (8, 1), None]
>>> [judge_cover(TWO, (5, 1), ((2, 1), (6, 1))), judge_cover(TWO, (5, 1), ((9, 4),)), judge_cover(HILL, (3, 1), ((5, 1),)), judge_cover(HILL, (3, 1), None)]
[None, ('dark', (3, (0, 1), (1, 1))), ('form',), ('form',)]
>>> [judge_paper(TWO, (5, 1), ((0, (1, 2)), (3, (1, 2)))), judge_paper(TWO, (5, 1), ((0, (1, 2)), (1, (1, 2)))), judge_paper(HILL, (3, 1), ((2, (0, 1)),))]
[None, ('meets', 0), ('form',)]
>>> FAR = ((3, (0, 1), (1, 1)),)
>>> [cover_for(TWO, (5, 1), FAR), fewest_for(TWO, (5, 1), ()), paper_for(TWO, (5, 1), FAR), judge_cover_for(TWO, (5, 1), FAR, ((6, 1),)), judge_paper_for(TWO, (5, 1), FAR, ((0, (1, 2)),))]
[((8, 1),), 0, ((3, (1, 2)),), None, ('form',)]
>>> FLAT = (((0, 1), (0, 1)), ((1, 1), (0, 1)))
>>> [steepest(TWO), sure_step(TWO, (5, 1)), most_drones(TWO, (5, 1)), sure_step(FLAT, (1, 1)), most_drones(FLAT, (1, 1))]
[(4, 1), (1, 4), 18, None, 1]
"""

GROUND = """
>>> from ridgewatch.ground import alone_parts, best_place, dark_parts, dark_width, dark_within, gain_at, greedy_drones, layers, needless, sees_all, seen_parts
>>> from ridgewatch.ground import share_seen, stretch_of, thinned, watchers, width_of
>>> HILL = tuple([((x, 1), (y, 1)) for x, y in ((0, 0), (2, 2), (4, 0))])
>>> TWO = tuple([((x, 1), (y, 1)) for x, y in ((0, 4), (1, 0), (2, 4), (6, 4), (7, 0), (8, 4))])
>>> [dark_parts(TWO, (5, 1), ((9, 4),)), dark_width(TWO, (5, 1), ((9, 4),)), sees_all(TWO, (5, 1), ((2, 1), (6, 1))), share_seen(TWO, (5, 1), ())]
[((3, (0, 1), (1, 1)), (4, (0, 1), (7, 8))), (15, 8), True, (0, 1)]
>>> [dark_within(TWO, (5, 1), ((9, 4),), ((2, (0, 1), (1, 1)), (4, (1, 2), (1, 1)))), seen_parts(HILL, (3, 1), ((0, 1),)), width_of(TWO, ((2, (0, 1), (1, 2)),))]
[((4, (1, 2), (7, 8)),), ((0, (0, 1), (1, 1)),), (2, 1)]
>>> [layers(HILL, (3, 1), ((0, 1), (2, 1))), watchers(HILL, (3, 1), ((0, 1), (2, 1)), (1, (0, 1))), watchers(HILL, (3, 1), ((0, 1), (2, 1)), (1, (1, 2)))]
[((0, (0, 1), (1, 1), (0, 1)), (1, (0, 1), (1, 1), (1,))), (0, 1), (1,)]
>>> [needless(HILL, (3, 1), ((0, 1), (2, 1))), thinned(HILL, (3, 1), ((0, 1), (2, 1), (3, 1))), alone_parts(HILL, (3, 1), ((0, 1), (2, 1)), 1)]
[(0,), ((3, 1),), ((1, (0, 1), (1, 1)),)]
>>> [stretch_of(HILL, (3, 1), ((0, 1), (2, 1)), 1), stretch_of(HILL, (3, 1), ((0, 1), (2, 1)), 0), gain_at(HILL, (3, 1), ((0, 1),), (2, 1))]
[((1, 1), (4, 1)), ((0, 1), (4, 1)), (2, 1)]
>>> [best_place(HILL, (3, 1), (), ((0, 1), (2, 1), (1, 1))), greedy_drones(HILL, (3, 1), ((0, 1), (4, 1)), 5)]
[((2, 1), (4, 1)), ((0, 1), (4, 1))]
"""

ROOMS = """
>>> from ridgewatch.rooms import area, begun_at, convex_corners, cut_room, diagonals, home, is_dentless, is_in, is_room, judge_room, moved_room, place_in, pose_of, posed_room, reflex_corners, same_room, scaled_room
>>> ROOM = tuple([((x, 1), (y, 1)) for x, y in ((0, 0), (4, 0), (4, 2), (2, 2), (2, 4), (0, 4))])
>>> BOW = tuple([((x, 1), (y, 1)) for x, y in ((0, 0), (2, 2), (2, 0), (0, 2))])
>>> [judge_room(ROOM), judge_room(ROOM[::-1]), judge_room(BOW), judge_room(ROOM + ROOM[:1]), judge_room(((0, 0), (1, 0), (0, 1)))]
[None, ('clock',), ('meet', 0, 2), ('twice', 0, 6), ('form',)]
>>> [area(ROOM), area(scaled_room(ROOM, (1, 2))), reflex_corners(ROOM), convex_corners(ROOM), is_dentless(ROOM), is_room(ROOM[:3])]
[(12, 1), (3, 1), (3,), (0, 1, 2, 4, 5), False, True]
>>> [place_in(ROOM, ((2, 1), (2, 1))), place_in(ROOM, ((2, 1), (3, 1))), place_in(ROOM, ((1, 1), (1, 2))), place_in(ROOM, ((3, 1), (3, 1))), is_in(ROOM, ((0, 1), (4, 1)))]
[('corner', 3), ('wall', 3), ('inside',), ('outside',), True]
>>> [begun_at(ROOM, 2)[0], home(begun_at(ROOM, 4)) == ROOM, same_room(ROOM, begun_at(ROOM, 3)), posed_room(ROOM[:3], 1), posed_room(ROOM[:3], 4)]
[((4, 1), (2, 1)), True, True, (((0, 1), (0, 1)), ((0, 1), (4, 1)), ((-2, 1), (4, 1))), (((0, 1), (0, 1)), ((-4, 1), (2, 1)), ((-4, 1), (0, 1)))]
>>> [pose_of(ROOM, moved_room(begun_at(ROOM, 1), (1, 1), (1, 2))), pose_of(ROOM, scaled_room(ROOM, (2, 1)))]
[(0, (1, 1), (1, 2)), None]
>>> [diagonals(ROOM), [area(part) for part in cut_room(ROOM, 0, 3)], cut_room(ROOM, 1, 3)[0] == ROOM[1:4]]
[((0, 2), (0, 3), (0, 4), (1, 3), (3, 5)), [(6, 1), (6, 1)], True]
"""

VIEWS = ROOMS + """
>>> from ridgewatch.views import barred_at, best_camera, both_see, unlit_parts, judge_barred, judge_view, lit_share, needless_cameras, seen_from, wall_parts, sees_room, sees_in, view, view_share
>>> A, B, MIDDLE = ((3, 1), (1, 1)), ((1, 1), (3, 1)), ((1, 1), (1, 1))
>>> [sees_in(ROOM, A, B), sees_in(ROOM, A, ROOM[4]), barred_at(ROOM, A, B), judge_barred(ROOM, A, ROOM[4], barred_at(ROOM, A, ROOM[4]))]
[True, False, None, None]
>>> [judge_barred(ROOM, A, ROOM[4], A), judge_barred(ROOM, A, ROOM[4], MIDDLE), judge_barred(ROOM, A, ROOM[4], None)]
[('outside',), ('way',), ('form',)]
>>> [wall_parts(ROOM, A), unlit_parts(ROOM, [A]), lit_share(ROOM, [A])]
[((0, (0, 1), (1, 1)), (1, (0, 1), (1, 1)), (2, (0, 1), (1, 1)), (5, (0, 1), (1, 1))), ((3, (0, 1), (1, 1)), (4, (0, 1), (1, 1))), ((1, 1), (1, 1), (1, 1), (0, 1), (0, 1), (1, 1))]
>>> [view(ROOM, A) == ROOM[:4] + ROOM[5:], view_share(ROOM, A), view(ROOM, MIDDLE) == ROOM, sees_room(ROOM, MIDDLE), sees_room(ROOM, A)]
[True, (5, 6), True, True, False]
>>> [judge_view(ROOM, A, ROOM[:4] + ROOM[5:]), judge_view(ROOM, A, ROOM), judge_view(ROOM, A, ROOM[:3]), judge_view(ROOM, A, ROOM[::-1])]
[None, ('seen', 4), ('area', (4, 1)), ('form',)]
>>> [seen_from(ROOM, [A, B], MIDDLE), seen_from(ROOM, [A, B], ROOM[4]), unlit_parts(ROOM, [A, B]), best_camera(ROOM, [A, MIDDLE, B]), needless_cameras(ROOM, [A, MIDDLE, B]), needless_cameras(ROOM, [A, B])]
[(0, 1), (1,), (), 1, (0, 1, 2), ()]
>>> both_see(ROOM, A, B)
((0, (0, 1), (1, 1)), (5, (0, 1), (1, 1)))
"""

SIDES = """
>>> from ridgewatch.sides import clipped, form_area, inner_side, inner_sides, is_on, lead_of, lies_in_form
>>> ELL = tuple([((x, 1), (y, 1)) for x, y in ((0, 0), (2, 0), (2, 1), (1, 1), (1, 2), (0, 2))])
>>> [inner_side(ELL, 0), inner_side(ELL, 2), len(inner_sides(ELL)), lead_of(inner_side(ELL, 2), ELL[4]), is_on(inner_side(ELL, 2), ELL[4])]
[((0, 1), (2, 1), (0, 1)), ((0, 1), (-1, 1), (-1, 1)), 6, (-1, 1), False]
>>> FORM = (((0, 1), (0, 1)), ((2, 1), (0, 1)), ((0, 1), (2, 1)))
>>> [clipped(FORM, ((1, 1), (0, 1), (1, 1))), clipped(FORM, ((1, 1), (0, 1), (2, 1))), clipped(FORM, ((1, 1), (0, 1), (3, 1))), clipped(FORM, ((0, 1), (-1, 1), (0, 1)))]
[(((1, 1), (0, 1)), ((2, 1), (0, 1)), ((1, 1), (1, 1))), (((2, 1), (0, 1)),), (), (((0, 1), (0, 1)), ((2, 1), (0, 1)))]
>>> [form_area(FORM), form_area(FORM[:2]), lies_in_form(FORM, ((1, 1), (1, 1))), lies_in_form(FORM[:2], ((1, 1), (0, 1))), lies_in_form((), ELL[0])]
[(2, 1), (0, 1), True, True, False]
"""

KERNELS = SIDES + """
>>> from ridgewatch.kernels import bars, common_spot, deepest, is_in_kernel, judge_bars, kernel, most_sides, shrunk_kernel, walls_behind
>>> [kernel(ELL) == tuple([((x, 1), (y, 1)) for x, y in ((0, 0), (1, 0), (1, 1), (0, 1))]), is_in_kernel(ELL, ELL[3]), is_in_kernel(ELL, ELL[4]), bars(ELL)]
[True, True, False, None]
>>> TEETH = tuple([((x, 1), (y, 1)) for x, y in ((0, -1), (5, -1), (4, 3), (3, 0), (2, 0), (1, 3))])
>>> [kernel(TEETH), bars(TEETH), common_spot(TEETH, (0, 2, 4)), walls_behind(TEETH, TEETH[5]), most_sides(TEETH)]
[(), ((0, 2), (2, 5), (4, 5)), None, (2, 3), (5, ((-8, 1), (-33, 1)))]
>>> [judge_bars(TEETH, bars(TEETH)), judge_bars(TEETH, ((0, 4), (2, 10), (4, 10))), judge_bars(TEETH, ((0, 1), (2, 5), (4, 5))), judge_bars(TEETH, ((0, 1), (3, 5))), judge_bars(TEETH, ())]
[None, None, ('turn',), ('lead',), ('form',)]
>>> [deepest(ELL), shrunk_kernel(ELL, (2, 3)), len(shrunk_kernel(ELL, (1, 2))), shrunk_kernel(ELL, (1, 1)), deepest(TEETH)[0][0] < 0]
[((2, 3), ((1, 3), (1, 3))), (((1, 3), (1, 3)),), 4, (), True]
"""

TRIANGLES = """
>>> from ridgewatch.triangles import ears, inner_ways, judge_cut, leaves_of, next_pairs, triangles, way_through
>>> ELL = tuple([((x, 1), (y, 1)) for x, y in ((0, 0), (2, 0), (2, 1), (1, 1), (1, 2), (0, 2))])
>>> inner_ways(ELL)
((0, 2), (0, 3), (0, 4), (1, 3), (3, 5))
>>> CUT = triangles(ELL)
>>> [CUT, ears(ELL), next_pairs(CUT), way_through(CUT, 0, 3), leaves_of(CUT)]
[((0, 1, 2), (0, 2, 3), (0, 3, 5), (3, 4, 5)), (1, 2, 4, 5), ((0, 1), (1, 2), (2, 3)), (0, 1, 2, 3), (0, 3)]
>>> [judge_cut(ELL, CUT), judge_cut(ELL, CUT[:3]), judge_cut(ELL, ((0, 1, 2), (0, 2, 5), (2, 3, 5), (3, 4, 5))), judge_cut(ELL, CUT[::-1])]
[None, ('many', 3), ('side', 1), ('form',)]
>>> SQUARE = tuple([((x, 1), (y, 1)) for x, y in ((0, 0), (1, 0), (1, 1), (0, 1))])
>>> [triangles(SQUARE), judge_cut(SQUARE, ((0, 1, 2), (0, 2, 3))), judge_cut(SQUARE, ((0, 1, 2), (0, 1, 3)))]
[((0, 1, 3), (1, 2, 3)), None, ('meet', 0, 1)]
"""

CAMERAS = TRIANGLES + """
>>> from ridgewatch.cameras import cameras, colours, comb, covers, fewest_covering, judge_colours, seeing_tip, tips
>>> [colours(CUT), cameras(ELL), covers(CUT, (0,)), covers(CUT, (0, 3)), fewest_covering(CUT), judge_colours(CUT, (0, 1, 2, 1, 0, 0)), judge_colours(CUT, colours(CUT)[:5])]
[(0, 1, 2, 1, 0, 2), (0, 4), False, True, (0, 3), ('alike', 2), ('form',)]
>>> [comb(1), len(comb(3)), len(cameras(comb(3))), tips(2)]
[(((0, 1), (-1, 1)), ((2, 1), (-1, 1)), ((1, 1), (3, 1))), 9, 3, (((1, 1), (3, 1)), ((4, 1), (3, 1)))]
>>> [[x for x, y in comb(2)], seeing_tip(2, 0)]
[[(0, 1), (5, 1), (4, 1), (3, 1), (2, 1), (1, 1)], (((0, 1), (-1, 1)), ((7, 3), (-1, 1)), ((1, 1), (3, 1)))]
"""

CHOOSING = """
>>> from ridgewatch.choosing import cases_for, choice_of_ridge, choice_of_room, fewest_cameras, gap, is_choice, judge_cases, judge_cameras, judge_hidden, judge_verdict, most_hidden, right_ends, sees_spot, spots_seen, unseen, verdict
>>> RING = (3, ((0, 1), (1, 2), (0, 2)))
>>> ROW = (4, ((0, 1), (1, 2, 3), (3,), (0,)))
>>> [is_choice(RING), is_choice((3, ((0, 3),))), is_choice((2, [(0,)])), is_choice((0, ())), sees_spot(ROW, 0), spots_seen(ROW, (2, 3)), unseen(ROW), unseen((2, ((0,),)))]
[True, False, False, True, (0, 3), (0, 3), (), (1,)]
>>> [fewest_cameras(RING), fewest_cameras(ROW), fewest_cameras((2, ((0,),))), fewest_cameras((0, ((), ()))), most_hidden(RING), most_hidden(ROW), gap(RING), gap(ROW), gap((2, ((0,),)))]
[(0, 1), (0, 1), None, (), (0,), (0, 2), 1, 0, None]
>>> [judge_cameras(RING, (0, 1, 2)), judge_cameras(RING, (1,)), judge_cameras(RING, (1, 0)), judge_hidden(RING, (0, 1)), judge_hidden(ROW, (0, 3)), judge_hidden((2, ((0,),)), (0, 1))]
[None, ('spot', 0), ('form',), ('both', 0, 1, 0), None, ('unseen', 1)]
>>> [judge_cases(RING, 1, ("split", 0, (("hidden", (2,)), ("hidden", (1,))))), judge_cases(RING, 1, ("hidden", (0, 1))), judge_cases(RING, 1, ("split", 0, (("hidden", (1,)), ("hidden", (1,))))), judge_cases(RING, 0, ("split", 0, ()))]
[None, ('hidden', ()), ('hidden', (0,)), ('split', ())]
>>> [cases_for(RING, 2), judge_cases(RING, 1, cases_for(RING, 1)), cases_for((2, ((0, 1),)), 0) in (("hidden", (0,)), ("hidden", (1,))), judge_cases(RING, 1, None), judge_verdict(RING, verdict(RING)), verdict((0, ()))]
[None, None, True, ('form', ()), None, (0, (), ())]
"""

REDUCING = CHOOSING + """
>>> from ridgewatch.reducing import easy_spots, fewest_for_each, most_seen, needed_cameras, smaller, spare_cameras
>>> [spare_cameras(ROW), easy_spots(ROW), smaller(ROW), needed_cameras(ROW), spare_cameras(RING), smaller(RING)]
[(2, 3), (1, 3), ((0, 1), (0, 2)), (1,), (), ((0, 1, 2), (0, 1, 2))]
>>> [most_seen(ROW, 1), most_seen(ROW, 0), most_seen(ROW, 9), fewest_for_each(RING, 2), fewest_for_each(ROW, 2), fewest_for_each((0, ((),)), 3)]
[(3, (1,)), (0, ()), (4, (0, 1)), (0, 1, 2), None, ()]
"""

KEPT = """
>>> from ridgewatch.kept import boards, change_by, dark_now, done, further, how_many_further, idle, is_deed, is_watched, lower_by, new_board, redone, undone
>>> RIDGE = (((0, 1), (0, 1)), ((1, 1), (3, 1)), ((2, 1), (0, 1)), ((3, 1), (3, 1)), ((4, 1), (0, 1)))
>>> first = new_board(RIDGE, (4, 1))
>>> [how_many_further(first), further(first), is_watched(first), len(dark_now(first)), lower_by(first, 1), lower_by(first, 2)]
[2, ((4, 3), (4, 1)), False, 4, (3, 1), (-3, 1)]
>>> late = done(first, ("put", (4, 3)))
>>> [dark_now(late), further(late), idle(late), change_by(late, ("put", (4, 1))), change_by(late, ("take", (4, 3)))]
[((3, (0, 1), (1, 1)),), ((4, 1),), (), -1, 1]
>>> [change_by(first, ("level", (6, 1))), change_by(first, ("split", 0, (1, 2))), change_by(first, ("heap", 2, (3, 1))), is_deed(first, ("heap", 2, (4, 1)))]
[-1, 0, 0, False]
>>> [undone(late)["back"], redone(undone(late)) == late, len(boards(late)), is_deed(first, ("drop", 0)), is_deed(late, ("put", (4, 3)))]
[(('put', (4, 3)),), True, 2, False, False]
"""

SURVEYS = """
>>> from ridgewatch.surveys import combs, compared_ridges, crowded, judge_report, least_height, like_others, numbers_of, one_height, ranked, report, seen_rows, survey
>>> RIDGE = (((0, 1), (0, 1)), ((1, 1), (3, 1)), ((2, 1), (0, 1)), ((3, 1), (3, 1)), ((4, 1), (0, 1)))
>>> HEIGHTS = [(4, 1), (6, 1)]
>>> [survey(RIDGE, HEIGHTS), one_height(RIDGE), least_height(RIDGE, [(4, 1), (6, 1), (5, 1)], 1), seen_rows(RIDGE, HEIGHTS, ((4, 3),))]
[[((4, 1), 2, ((4, 3), (4, 1))), ((6, 1), 1, ((2, 1),))], ((6, 1), (2, 1)), (6, 1), [4, 4]]
>>> told = report(RIDGE, (4, 1))
>>> [told[2], told[3]]
[((0, (1, 2)), (3, (1, 2))), ((0, ((2, 3), (4, 3))), (1, ((8, 3), (4, 1))))]
>>> [judge_report(RIDGE, (4, 1), told), judge_report(RIDGE, (4, 1), (3,) + told[1:]), judge_report(RIDGE, (4, 1), told[:3] + ((),)), crowded(RIDGE, (4, 1))]
[None, ('number',), ('tight', 0), (0, 3)]
>>> [numbers_of(combs(2)[0], [(11, 1)]), ranked([combs(2)[0], RIDGE], (11, 1)), compared_ridges(RIDGE, combs(2)[0], (11, 1)), [word for word, ridge, height in like_others(RIDGE, (4, 1))]]
[[2], ((1, 1), (2, 0)), -1, ['mirrored', 'shifted', 'stretched', 'plain']]
"""

DEEDS = """
>>> from ridgewatch.deeds import deed_text, log_text, read_deed, read_log
>>> [deed_text(("heap", 1, (-3, 2))), read_deed("split 0 1/2"), log_text((("put", (2, 1)), ("drop", 1))), read_log("take 2\\nlevel 9/2"), log_text(()), read_log("")]
['heap 1 -3/2', ('split', 0, (1, 2)), 'put 2\\ndrop 1', (('take', (2, 1)), ('level', (9, 2))), '', ()]
>>> place_of(lambda: read_deed("drop 1 2"))
6
"""

HOUSE = """
>>> from ridgewatch.house import House
>>> PEAK = (((0, 1), (0, 1)), ((2, 1), (4, 1)), ((4, 1), (0, 1)))
>>> house = House(PEAK, (5, 1))
>>> [house.watched(), house.missing(), house.do(("put", (2, 1))), house.drones(), house.watched(), house.missing(), house.undo(), house.drones(), house.redo()]
[False, 1, 1, ((2, 1),), True, 0, 0, (), 1]
>>> [house.do(("put", (0, 1))), house.spare(), house.thin(), house.drones(), house.watch(), house.height(), house.fewest()[0]]
[2, ((0, 1),), 1, ((2, 1),), 0, (5, 1), 1]
"""

DESK = HOUSE + """
>>> from ridgewatch.desk import Desk
>>> desk = Desk(PEAK, (5, 1))
>>> [desk.say("ridge"), desk.say("height"), desk.say("drones"), desk.say("missing"), desk.say("watch"), desk.say("watched"), desk.say("undo"), desk.say("undo"), desk.say("log")]
['ridge 0,0 2,4 4,0', '5', 'drones -', '1', '1', 'yes', '0', 'refused', 'nothing']
>>> [desk.say("put 2"), desk.say("dark"), desk.say("fewest"), desk.say("put 2"), desk.say("take 1"), desk.say(None)]
['1', 'nothing', '1', 'what', 'what', 'what']
"""


def place_of(call):
    """The place that the BadText tells which the call raises."""
    try:
        call()
    except BadText as error:
        return error.place
    return None


class Examples(unittest.TestCase):
    def check(self, name, text):
        test = doctest.DocTestParser().get_doctest(text, {"place_of": place_of}, name, None, 0)
        said = []
        outcome = doctest.DocTestRunner(verbose=False).run(test, out=said.append)
        self.assertEqual(outcome.failed, 0, "".join(said))
        self.assertGreater(outcome.attempted, 1)

    def test_fractions(self):
        self.check("fractions", FRACTIONS)

    def test_spots(self):
        self.check("spots", SPOTS)

    def test_ridges(self):
        self.check("ridges", RIDGES)

    def test_texts(self):
        self.check("texts", TEXTS)

    def test_sight(self):
        self.check("sight", SIGHT)

    def test_slopes(self):
        self.check("slopes", SLOPES)

    def test_drones(self):
        self.check("drones", DRONES)

    def test_ground(self):
        self.check("ground", GROUND)

    def test_rooms(self):
        self.check("rooms", ROOMS)

    def test_views(self):
        self.check("views", VIEWS)

    def test_sides(self):
        self.check("sides", SIDES)

    def test_kernels(self):
        self.check("kernels", KERNELS)

    def test_triangles(self):
        self.check("triangles", TRIANGLES)

    def test_cameras(self):
        self.check("cameras", CAMERAS)

    def test_choosing(self):
        self.check("choosing", CHOOSING)

    def test_reducing(self):
        self.check("reducing", REDUCING)

    def test_kept(self):
        self.check("kept", KEPT)

    def test_surveys(self):
        self.check("surveys", SURVEYS)

    def test_deeds(self):
        self.check("deeds", DEEDS)

    def test_house(self):
        self.check("house", HOUSE)

    def test_desk(self):
        self.check("desk", DESK)

    def test_readme(self):
        with open(os.path.join(os.path.dirname(os.path.abspath(__file__)), "..", "README.md"), encoding="utf-8") as file:
            self.check("readme", file.read())


if __name__ == "__main__":
    unittest.main()
