"""The interface as the document writes it: names, arguments, and where they are defined; its examples."""

import builtins
import doctest
import importlib
import inspect
import pathlib
import unittest

from gridshapes.areas import core_of, counting_triple, rim_of, twice_area
from gridshapes.claims import sense_of, told_claim
from gridshapes.cuts import cut_along, fine_twice
from gridshapes.finecounts import grid_points_in, nth_point, stretch_points
from gridshapes.fits import fit_set
from gridshapes.floorsums import first_remainder, floor_sum, low_remainders
from gridshapes.greatest import greatest_paper
from gridshapes.moving import course_of, meeting_time, overlap_time
from gridshapes.owners import does_own, owned_samples, row_runs
from gridshapes.rounds import hull_of, sides_of, walls_of
from gridshapes.shoves import least_walk, shove_along
from gridshapes.stands import stand_of, stand_paper, stand_shape
from gridshapes.sums import mixed_of, rest_of, sum_of
from gridshapes.texts import write_text, write_value

INTERFACE = {
    "numbers": """is_fraction(value) is_point(value) is_fine_point(value) fraction_of(top,bottom) comes_ahead(one,other)
        same_slope(one,other) bare_vector(vector) in_slopes(vectors)""",
    "rounds": """is_round(value) is_fine_shape(value) hull_of(points) sides_of(shape) shape_by(point,sides)
        moved(shape,shift) reach(shape,u) walls_of(shape) fine_of(shape) place_in(shape,p) fine_borders(fine)
        fine_place(fine,p)""",
    "areas": """twice_area(shape) rim_of(shape) core_of(shape) points_in(shape) length_of(vector)
        rim_point(shape,number) rim_number(shape,point) multiple_of(shape,k) counting_triple(shape)
        points_in_multiple(shape,k) core_of_multiple(shape,k) first_multiple(shape,many) multiple_with(shape,many)
        centre_of(shape)""",
    "sums": """sum_of(one,other) sum_of_all(shapes) opposite_of(shape) rest_of(whole,part) how_often(whole,part)
        rest_paper(whole,part) accepts_rest(whole,part,paper) is_even(shape) stretches_of(shape)
        sum_of_stretches(point,vectors) mixed_of(one,other) breadth_of(shape,u)""",
    "stands": """stand_shape(one,other) stand_of(one,other,t=(0,0)) meets(one,other,t=(0,0))
        overlaps(one,other,t=(0,0)) trial_directions(one,other) parting_directions(one,other,t=(0,0))
        stand_paper(one,other,t=(0,0)) accepts_stand(one,other,t,paper) count_shifts(one,other)""",
    "commons": """common_part(shapes) common_point(shapes) first_empty(shapes) none_paper(shapes)
        accepts_none(shapes,paper)""",
    "moving": """word_at(mover,still,shift,vector,moment) meeting_time(mover,still,shift,vector)
        overlap_time(mover,still,shift,vector) course_of(mover,still,shift,vector)
        meets_of(mover,shapes,shift,vector) is_free(mover,shapes,shift,vector) free_until(mover,shapes,shift,vector)
        both_moving(mover,still,shift,vector,other_shift,other_vector) leg_paper(mover,still,shift,vector)
        free_paper(mover,still,shift,vector) accepts_leg(mover,still,shift,vector,value)
        accepts_free(mover,still,shift,vector,value)""",
    "shoves": """shove_along(one,other,shift,way) whole_shove(one,other,shift,way) least_shove(one,other,shift,menu)
        least_push(one,other,shift) least_walk(one,other,shift) least_king_walk(one,other,shift)
        first_free(one,others,shift,way) shove_paper(one,other,shift,way) shows_shove(one,other,shift,way,value)""",
    "fits": """rooms_of(shape,other) does_fit(shape,other,t) fit_set(shape,other) touched_numbers(shape,other,t)
        farthest(shape,other,t,v) fit_paper(shape,other) accepts_fit(shape,other,value) reached_shape(shape,other)
        is_reached(shape,other,p) reach_paper(shape,other,p) accepts_reach(shape,other,p,value)""",
    "greatest": """fine_fold(shape,s) greatest_fit(shape,other) greatest_set(shape,other) least_multiple(shape,other)
        greatest_paper(shape,other) accepts_greatest(shape,other,value)""",
    "floorsums": """floor_sum(n,a,b,m) low_remainders(n,a,b,m,r) first_remainder(a,b,m,low,high)
        floor_moments(n,a,b,m)""",
    "finecounts": """grid_points_in(fine) grid_points_within(fine) grid_points_on_rim(fine) row_of(fine,y)
        points_in_rows(fine,low,high) first_row(fine) last_row(fine) rank_of(fine,point) nth_point(fine,n)
        next_point(fine,point) stretch_points(one,other) spread_of(fine)""",
    "simples": """is_loop(value) first_clash(loop) is_clash(loop,value) all_clashes(loop) simple_of(loop)
        is_simple(value) simple_twice(simple) rim_points(simple) points_within(simple) where_is(simple,point)
        sides_under(simple,point)""",
    "owners": """does_own(simple,point) owners_among(simples,point) owned_samples(simple,*,s=(0,1),t=(0,1))
        owned_below(simple,j,*,s=(0,1),t=(0,1)) row_runs(simple,j,*,s=(0,1),t=(0,1))
        owned_sample(simple,n,*,s=(0,1),t=(0,1)) number_of_sample(simple,i,j,*,s=(0,1),t=(0,1))""",
    "pieces": """are_parting(simple,pieces) first_flaw(simple,pieces) accepts_flaw(simple,pieces,value) ears_of(simple)
        told_triangles(simple) diagonals_of(simple) pieces_by(simple,diagonals) fewest_round(simple)""",
    "cuts": """cut_by(fine,walls) cut_along(fine,first,second) cells_of(fine,lines) fine_twice(fine)
        is_in_fine(fine,point) is_within_fine(fine,point)""",
    "sweeps": """swept_by(shape,shift,v) swept_shapes(shape,shift,legs) met_moments(shape,shift,legs,other)
        first_met(shape,shift,legs,other) swept_points(shape,shift,legs) fresh_points(shape,shift,legs)
        swept_twice(shape,shift,legs) sweep_paper(shape,shift,legs,other) shows_sweep(shape,shift,legs,other,value)""",
    "ways": """is_floor(value) hit_at(floor,t) stands_free(floor,t) goes(floor,t,number) stopped_by(floor,t,number)
        led_to(floor,t,row) reached_from(floor,t) distances_from(floor,t) farthest_from(floor,t) room_of(floor,t)
        told_row(floor,t,goal) is_enough_lifted(floor,t,goal,lot) least_lifted(floor,t,goal) way_paper(floor,t,goal)
        accepts_way(floor,t,goal,value) least_paper(floor,t,goal) accepts_least(floor,t,goal,value)""",
    "likeness": """is_grid_map(value) point_led(grid,point) vector_led(grid,vector) shape_led(grid,shape)
        map_behind(grid,other) map_back(grid) map_of_frames(shape,j,other,n,turn) are_like(one,other)
        all_maps(one,other) own_maps(shape) like_map(one,other) upright_image(shape,j,turn) likeness_form(shape)
        map_to_form(shape) like_paper(one,other) accepts_like(one,other,paper)""",
    "claims": """is_question(value) is_claim(value) is_right(value) told_claim(question) sense_of(claim)
        words_of(question) claim_led(grid,claim) first_wrong(claims)""",
    "texts": """is_value(value) is_thing(value) write_value(value) read_value(line) write_text(thing) read_text(text)
        write_live(live) read_live(text) lines_due(text)""",
}

CLASSES = {
    ("floor", "Live"): """__init__(self,floor,t) floor(self) place(self) deeds(self) was(self,moment) lead(self,row)
        lead_to(self,goal) lift(self,number) lay(self,shape) put(self,number,v) undo(self) redo(self) __len__(self)
        trying(self,guest,*,kept=False) twin(self) __eq__(self,other)""",
    ("console", "Console"): "__init__(self) run(self,line)",
}


class Interface(unittest.TestCase):
    def test_names_arguments_and_files(self):
        for name, rows in INTERFACE.items():
            module = importlib.import_module(f"gridshapes.{name}")
            for row in rows.split():
                function = getattr(module, row.partition("(")[0])
                self.assertTrue(inspect.isfunction(function), row)
                self.assertEqual(function.__module__, module.__name__)
                told = function.__name__ + str(inspect.signature(function)).replace(" ", "")
                self.assertEqual(told, row)


    def test_classes_and_their_methods(self):
        for (name, title), rows in CLASSES.items():
            module = importlib.import_module(f"gridshapes.{name}")
            told = getattr(module, title)
            self.assertTrue(inspect.isclass(told))
            self.assertEqual(told.__module__, module.__name__)
            for row in rows.split():
                # Each method stands in the class itself.
                method = vars(told)[row.partition("(")[0]]
                self.assertTrue(inspect.isfunction(method), row)
                self.assertEqual(method.__name__ + str(inspect.signature(method)).replace(" ", ""), row)


class Examples(unittest.TestCase):
    wedge = ((0, 0), (4, 0), (0, 3))
    square = ((0, 0), (1, 0), (1, 1), (0, 1))

    def test_rounds(self):
        shape = hull_of([(0, 3), (2, 1), (4, 0), (0, 0)])
        self.assertEqual(shape, ((0, 0), (4, 0), (0, 3)))
        self.assertEqual(sides_of(shape), ((4, 0), (-4, 3), (0, -3)))
        self.assertEqual(walls_of(shape), (((0, -1), (0, 1)), ((3, 4), (12, 1)), ((-1, 0), (0, 1))))

    def test_areas_and_sums(self):
        wedge, square = self.wedge, self.square
        self.assertEqual((twice_area(wedge), rim_of(wedge), core_of(wedge), counting_triple(wedge)),
                         (12, 8, 3, (12, 8, 2)))
        self.assertEqual((sum_of(wedge, square), mixed_of(wedge, square)),
                         (((0, 0), (5, 0), (5, 1), (1, 4), (0, 4)), 14))
        self.assertEqual(rest_of(((0, 0), (5, 0), (5, 1), (1, 4), (0, 4)), square), wedge)

    def test_stands(self):
        square, three = self.square, self.wedge
        self.assertEqual(stand_shape(square, three), ((-1, -1), (4, -1), (4, 0), (0, 3), (-1, 3)))
        self.assertEqual(
            (stand_of(square, three, (3, 0)), stand_paper(square, three, (4, 0)), stand_paper(square, three, (5, 0))),
            ("overlap", ("touch", ((4, 1), (0, 1)), ((-1, 0), (-4, 1))), ("apart", (-1, 0), (-5, 1))))

    def test_moving(self):
        leg = (self.square, self.wedge, (10, 0), (-12, 0))
        self.assertEqual(meeting_time(*leg), ((1, 2), (11, 12)))
        self.assertEqual(overlap_time(*leg), ((1, 2), (11, 12)))
        self.assertEqual(course_of(*leg), [
            ((0, 1), "apart", "apart"), ((1, 2), "touch", "overlap"), ((11, 12), "touch", "apart"),
            ((1, 1), "apart", None)])

    def test_shoves(self):
        self.assertEqual((shove_along(self.square, self.wedge, (3, 0), (0, 1)),
                          least_walk(self.square, self.wedge, (3, 0))), ((3, 4), (1, (1, 0))))

    def test_fits(self):
        self.assertEqual(fit_set(self.square, self.wedge), (((0, 1), (0, 1)), ((5, 3), (0, 1)), ((0, 1), (5, 4))))
        self.assertEqual(greatest_paper(self.square, self.wedge), (
            "greatest", (12, 7), ((0, 1), (0, 1)), ((0, (4, 7)), (1, (1, 7)), (2, (3, 7)))))

    def test_floor_sums_and_grid_points(self):
        self.assertEqual((floor_sum(4, 3, 1, 2), low_remainders(10, 3, 1, 7, 2), first_remainder(3, 1, 7, 5, 6)),
                         (10, 4, 4))
        fine = (((0, 1), (0, 1)), ((5, 3), (0, 1)), ((0, 1), (5, 4)))
        self.assertEqual((grid_points_in(fine), nth_point(fine, 2), stretch_points(((0, 1), (1, 2)), ((4, 1), (5, 2)))),
                         (3, (0, 1), ((1, 1), (2, 1), 2)))

    def test_owners(self):
        simple = ((0, 0), (2, 0), (0, 2))
        self.assertTrue(all(does_own(simple, p) for p in ((0, 0), (1, 0), (0, 1))))
        self.assertEqual((owned_samples(simple), row_runs(simple, 0), row_runs(simple, 1)), (3, ((0, 1),), ((0, 0),)))
        self.assertEqual(owned_samples(simple, s=(1, 2), t=(1, 2)), 1)

    def test_cuts(self):
        square = (((0, 1), (0, 1)), ((2, 1), (0, 1)), ((2, 1), (2, 1)), ((0, 1), (2, 1)))
        self.assertEqual([fine_twice(part) for part in cut_along(square, (0, 1), (2, 2))], [(2, 1), (6, 1)])

    def test_claims_and_texts(self):
        self.assertEqual(sense_of(told_claim(("stand", self.square, self.wedge, (5, 0)))), "apart")
        self.assertEqual(write_text(("fine", (((0, 1), (0, 1)), ((5, 3), (0, 1)), ((0, 1), (5, 4))))),
                         "fine 0 0 5/3 0 0 5/4")
        self.assertEqual(write_value(("shut", ((0, 0), (1, 0)))), "( shut ( ( 0 0 ) ( 1 0 ) ) )")


class Readme(unittest.TestCase):
    def test_its_examples(self):
        # Whatever is shown there is kept as a builtin, which others are not to see.
        self.addCleanup(vars(builtins).pop, "_", None)
        path = pathlib.Path(__file__).resolve().parent.parent / "README.md"
        told = doctest.testfile(str(path), module_relative=False)
        self.assertEqual(told.failed, 0)
        self.assertGreater(told.attempted, 20)


if __name__ == "__main__":
    unittest.main()
