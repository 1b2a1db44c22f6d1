"""Tests of what the document promises over the whole program, through several of its files."""

import copy
import itertools
import random
import unittest
from fractions import Fraction

from fewtell.alike import Alike, Answer, Apart, compare
from fewtell.desk import Desk
from fewtell.drawings import Drawing, all_drawings
from fewtell.errors import Barred, DuplicateName, HasWishes, InvalidDrawing, InvalidEntry, InvalidName, InvalidNumber
from fewtell.errors import InvalidPart, InvalidPerson, InvalidProgram, InvalidRow, InvalidSight, InvalidTrait, InvalidWave
from fewtell.errors import InvalidWeb, NotSquare, NotTold, TooLarge, TooMany, TooWide, UnknownName, UnlikeWorlds, Unseen
from fewtell.forms import Form, constant, form_of
from fewtell.guesses import guess, is_guess, is_right, mean, mean_given, plan_form
from fewtell.levels import Below, Blocks, Never, greatest_ratio, level_numbers, never_below, never_more, top
from fewtell.pages import read_plan, write_plan
from fewtell.plans import Plan
from fewtell.populations import Population
from fewtell.possible import Closed, Possible, estimate_form, guess_for, seen_web, sight
from fewtell.programs import check_program
from fewtell.ratios import ratio_text
from fewtell.single import Another, One, Unsaid, is_steady, only_guess
from fewtell.spreads import error, spread
from fewtell.surveys import Survey
from fewtell.texts import program_text, read_program
from fewtell.webs import is_web, standard, web_text
from fewtell.worlds import World
from tests.by_hand import TRAITS, form_number, good_program, number_of, pair, random_population, random_target, some_plans

MOST = 10 ** 30


def target(text, world):
    return form_of(world, read_program(text))


def seen_rows(drawing, population):
    """The rows of a population for tell_all that are seen in a drawing."""
    return [(trait, people, number) for (trait, people), number in population.rows() if drawing.sees(trait, people)]


class TestTextsAndPages(unittest.TestCase):
    def test_answers_are_the_same(self):
        source = random.Random(811)
        for plan, _ in some_plans(source, 40, with_sights=True):
            again = read_plan(write_plan(plan))
            self.assertEqual((again, again.world), (plan, plan.world))
            program = good_program(source, plan.world, most_width=2)
            text = program_text(program)
            same = read_program(text)
            self.assertEqual(program_text(same), text)
            one, other = form_of(plan.world, program), form_of(again.world, same)
            self.assertEqual(one, other)
            found = guess_for(plan, one)
            answer = guess_for(again, other)
            self.assertEqual((found.told(), found.holds()), (answer.told(), answer.holds()))
            if not found:
                self.assertEqual(found.rows(), answer.rows())
                continue
            self.assertEqual(found.form, answer.form)
            try:
                self.assertEqual(only_guess(plan, one).told(), only_guess(again, other).told())
            except (TooWide, TooLarge) as raised:
                with self.assertRaises(raised.__class__):
                    only_guess(again, other)
            drawing = source.choice(list(all_drawings(plan)))
            moved = Drawing(again, [drawing.nodes(name) for name in again.names()])
            self.assertEqual(moved, drawing)
            population = random_population(source, plan.world, 6)
            self.assertEqual(moved.value(answer.form, population), drawing.value(found.form, population))

    def test_desks_and_surveys(self):
        source = random.Random(812)
        for plan, _ in some_plans(source, 25, with_sights=True):
            drawing = source.choice(list(all_drawings(plan)))
            again = read_plan(write_plan(plan))
            survey = Survey(plan, drawing)
            desk = Desk(Survey(again, Drawing(again, [drawing.nodes(name) for name in again.names()])))
            population = random_population(source, plan.world, 8)
            for trait, people, number in seen_rows(drawing, population):
                words = ",".join(".".join(str(at) for at in person) for person in people)
                self.assertEqual(desk(f"tell {trait} {words} {number}"), "ok")
                survey.tell(trait, people, number)
            for name in "abc":
                program = good_program(source, plan.world, most_width=2)
                try:
                    survey.keep(name, form_of(plan.world, program))
                except Barred:
                    self.assertEqual(desk(f"keep {name} {program_text(program)}"), "error Barred")
                    continue
                self.assertEqual(desk(f"keep {name} {program_text(program)}"), "ok")
                self.assertEqual(desk(f"estimate {name}"), ratio_text(survey.estimate(name)))
            self.assertEqual(desk.survey(), survey)


class TestArguments(unittest.TestCase):
    def test_lists_that_were_passed_stay_and_are_not_shared(self):
        world_parts, world_traits = [("a", (3, 2)), ("b", (2,))], list(TRAITS)
        world = World(world_parts, world_traits)
        waves = [("w", None, ((2, 1), (1,))), ("v", "w", ((None, None), (None,)))]
        sights = [("f", "w", "all")]
        plan = Plan(world, waves, sights)
        rows = [[(0, 2), (0, 0), (0, 2, 1), (0, 0, 0), (1, 1)], [(1, 1), (0, 0), (0, 0, 0), (0, 2), (0, 2, 1)]]
        numbers = [(("f", ((0, 2, 1),)), 4), (("f", ((1, 1),)), -1)]
        terms = [((((0, 0, 0),), ((),), (("f", (0,)),)), (1, 2))]
        blocks = [((0, 1), 3), ((1,), -2)]
        passed = [world_parts, world_traits, waves, sights, rows, numbers, terms, blocks]
        before = copy.deepcopy(passed)
        drawings = [Drawing(plan, rows), Drawing(plan, rows)]
        populations = [Population(world, numbers), Population(world, numbers)]
        forms = [Form(world, terms), Form(world, terms)]
        both = [Blocks(world, blocks), Blocks(world, blocks)]
        closed = [Closed(plan, forms[0], numbers), Closed(plan, forms[0], numbers)]
        survey = Survey(plan, drawings[0])
        survey.tell_all(*[(trait, people, number) for (trait, people), number in numbers])
        survey.keep("x", forms[0])
        survey.estimate("x")
        self.assertEqual(passed, before)
        told = [lambda: drawings[0].nodes("w"), lambda: drawings[0].people("v"), populations[0].rows, populations[0].people,
                forms[0].terms, both[0].rows, closed[0].rows, closed[0].populations, plan.waves, plan.sights, plan.names,
                lambda: plan.roots("v"), world.parts, world.traits, survey.names, survey.kept, Desk(survey).log,
                lambda: level_numbers(forms[0] * forms[0], "f"), lambda: top(forms[0] * forms[0], "f")]
        for call in told:
            first = call()
            kept = copy.copy(first)
            first.append(None)
            first.clear()
            self.assertEqual(call(), kept)
        for changed in passed:
            changed.clear()
        self.assertEqual((drawings[0], populations[0], forms[0]), (drawings[1], populations[1], forms[1]))
        self.assertEqual((both[0].rows(), closed[0].rows()), (both[1].rows(), closed[1].rows()))
        self.assertEqual((len(drawings[0].nodes("w")), len(populations[0]), len(forms[0]), len(both[0].rows())), (5, 2, 1, 2))

    def test_equal_calls_tell_equal_things(self):
        source = random.Random(821)
        for plan, _ in some_plans(source, 15, with_sights=True):
            form = random_target(source, plan.world)
            one, other = guess_for(plan, form), guess_for(Plan(plan.world, plan.waves(), plan.sights()), form)
            self.assertEqual((one.told(), one.holds()), (other.told(), other.holds()))
            self.assertEqual(one.rows() if not one else one.form, other.rows() if not other else other.form)
            lists = [[drawing.nodes(name) for name in plan.names()] for drawing in all_drawings(plan)]
            self.assertEqual(lists, [[drawing.nodes(name) for name in plan.names()] for drawing in all_drawings(plan)])

    def test_tuples_where_lists_are_documented(self):
        world = World((("a", (3,)),), tuple(TRAITS))
        plan = Plan(world, (("w", None, ((2,),)),), (("f", "w", "all"),))
        drawing = Drawing(plan, (((0, 2), (0, 0)),))
        self.assertEqual(drawing.nodes("w"), [(0, 0), (0, 2)])
        self.assertEqual(drawing, Drawing(plan, [[(0, 0), (0, 2)]]))
        self.assertEqual(Blocks(world, (((0,), 1),)).rows(), [((0,), 1)])
        self.assertEqual(Closed(plan, Form(world), ((("f", ((0, 0),)), 1),)).rows(), [(("f", ((0, 0),)), 1)])
        self.assertEqual(Population(world, ((("f", ((0, 0),)), 1),)), Population(world, [(("f", ((0, 0),)), 1)]))

    def test_calls_by_name(self):
        world = World(traits=TRAITS, parts=[("a", (4,))])
        plan = Plan(sights=[("f", "w", "all")], waves=[("w", None, ((2,),)), ("v", "w", ((None,),))], world=world)
        drawing = Drawing(rows=[[(0, 1), (0, 3)]] * 2, plan=plan)
        total = form_of(program=read_program(text="sum(i: f(i))"), world=world)
        squares = form_of(world=world, program=read_program("sum(i: f(i)^2)"))
        web = total.terms()[0][0]
        form = estimate_form(target=total, plan=plan)
        self.assertEqual(sight(web=web, plan=plan), (1, 2))
        self.assertEqual(seen_web(web=web, plan=plan) * 2, form)
        self.assertEqual(guess_for(target=total, plan=plan).form, form)
        self.assertTrue(Possible(form=form, target=total, plan=plan).holds())
        self.assertFalse(Closed(rows=[], target=total, plan=plan).holds())
        self.assertEqual(spread(form=form, plan=plan), error(target=total, form=form, plan=plan))
        self.assertEqual(only_guess(target=total, plan=plan).told(), "one" if is_steady(plan=plan) else "unsaid")
        self.assertFalse(One(form=form, target=total, plan=plan).holds())
        self.assertTrue(Unsaid(form=form, target=total, plan=plan).holds())
        self.assertFalse(Another(other=form, form=form, target=total, plan=plan).holds())
        self.assertEqual(level_numbers(trait="f", form=squares), [[(1, 1)]])
        self.assertEqual(top(trait="f", form=squares), [[(4, 1)]])
        self.assertTrue(never_below(trait="f", form=squares))
        self.assertTrue(never_more(trait="f", other=squares, one=Form(world=world)))
        found = spread(plan, form)
        self.assertEqual(greatest_ratio(trait="f", other=found, one=found), (1, 1))
        self.assertTrue(Never(trait="f", form=squares, world=world).holds())
        blocks = Blocks(rows=[((0,), 2)], world=world)
        self.assertFalse(Below(blocks=blocks, trait="f", form=squares, world=world).holds())
        self.assertEqual(blocks.value(trait="f", form=squares), (16, 1))
        self.assertEqual((drawing.nodes(wave="w"), drawing.people(wave="v")), ([(0, 1), (0, 3)], [(0, 1), (0, 3)]))
        self.assertTrue(drawing.has(person=(0, 1), wave="v"))
        self.assertTrue(drawing.sees(people=((0, 1),), trait="f"))
        self.assertEqual(drawing.value(population=Population(world=world, rows=()), form=form), (0, 1))
        survey = Survey(drawing=drawing, plan=plan)
        survey.tell(value=3, people=((0, 1),), trait="f")
        survey.keep(target=total, name="x")
        self.assertEqual((survey.estimate(name="x"), survey.target_named(name="x")), ((6, 1), total))
        self.assertTrue(survey.is_told(people=((0, 1),), trait="f"))
        survey.redraw(drawing=drawing, plan=plan)
        survey.take_back(people=((0, 1),), trait="f")
        survey.drop(name="x")
        self.assertEqual(survey.tried(action=len), 0)
        self.assertEqual(Desk(survey=survey).say(line="told"), "0")
        self.assertEqual(read_plan(text=write_plan(plan=plan)), plan)
        self.assertEqual(len(list(all_drawings(plan=plan))), 6)
        self.assertEqual(repr(Answer(world=world)), "Answer(unknown)")


class TestTwoThingsWrong(unittest.TestCase):
    def setUp(self):
        self.world = World([("a", (3, 2)), ("b", (2,))], TRAITS)
        self.other = World.plain(4)
        self.plan = Plan(self.world, [("w", None, ((2, 1), (1,)))], [("f", "w", "all")])
        self.drawing = Drawing(self.plan, [[(0, 0), (0, 0, 0), (0, 1), (0, 1, 0), (1, 0)]])
        self.wished = plan_form(self.plan, read_program("sum(i: ([i@w] * f(i)))"))
        self.unknown = Form(self.world, [((((1, 0),), (("x",),), ()), (1, 1))])

    def raises(self, wanted, call, *args):
        with self.subTest(args=args), self.assertRaises(wanted):
            call(*args)

    def test_worlds_and_plans(self):
        hows = ((None, None), (None,))
        self.raises(InvalidPart, World, [], [])
        self.raises(InvalidPart, World, [("a", (0,))], [("f", 0, False, False)])
        self.raises(InvalidTrait, World, [("a", (1,))], [("f", 0, False, False), None])
        self.raises(InvalidWave, Plan, self.world, [("w", "w", hows)], [None])
        self.raises(InvalidSight, Plan, self.world, [("w", None, hows)], [("h", "x", "none")])
        self.raises(InvalidPerson, self.world.meet, None, True)
        self.raises(UnknownName, self.world.entry, "h", None)
        self.raises(UnknownName, Population(self.world).with_number, "h", None, None)
        self.raises(InvalidEntry, Population(self.world).with_number, "f", None, None)
        self.raises(InvalidNumber, Population(self.world).with_number, "f", ((1, 0),), None)
        rows = [(("g", (one, two)), 1) for one in self.world.all_people() for two in self.world.all_people()]
        self.raises(InvalidRow, Population, self.world, [*rows, None])
        self.raises(TooMany, Population, self.world, rows)
        full = Population(self.world, rows[:30])
        self.raises(InvalidNumber, full.with_number, "f", ((1, 0),), 10 ** 6 + 1)
        self.raises(TooMany, full.with_number, "f", ((1, 0),), 1)

    def test_programs_and_forms(self):
        wide = read_program("(sum(i: f(i))^4 * sum(i: (f(i)^4 * f(i)^4)))")
        large = read_program("sum(i: ((f(i)^4 * f(i)^4) * f(i)))")
        wrong = read_program("(sum(i: f(i))^4 * sum(i: (f(i)^4 * h(i)^4)))")
        self.raises(InvalidProgram, check_program, self.world, wrong)
        self.raises(TooWide, form_of, self.world, wide)
        self.raises(TooLarge, form_of, self.world, ("times", large, ("power", ("plus", *[("num", 1, 1)] * 8), 3)))
        self.raises(InvalidProgram, compare, self.world, wrong, wide)
        self.raises(TooWide, compare, self.world, wide, wrong)
        one = Form(self.other)
        self.raises(UnlikeWorlds, lambda: self.wished * one)
        self.raises(UnlikeWorlds, one.value, Population(self.world))
        self.raises(UnlikeWorlds, self.wished.value, Population(self.other))
        self.raises(HasWishes, self.wished.value, Population(self.world))
        both = target("sum(i: sum(j: sum(k: (f(i)^3 * f(j) * f(k)))))", self.world)
        self.raises(TooWide, lambda: both * both)

    def test_guesses(self):
        plan, foreign = self.plan, Form(self.other)
        for call in (mean, is_guess, spread):
            self.raises(UnlikeWorlds, call, plan, foreign)
            self.raises(InvalidWeb, call, plan, self.unknown)
        self.raises(UnlikeWorlds, mean_given, plan, foreign, "x")
        self.raises(InvalidWeb, mean_given, plan, self.unknown, "x")
        self.raises(UnknownName, mean_given, plan, self.wished, "x")
        for call in (is_right, error):
            self.raises(UnlikeWorlds, call, plan, foreign, self.wished)
            self.raises(InvalidWeb, call, plan, self.unknown, foreign)
            self.raises(UnlikeWorlds, call, plan, self.wished, foreign)
            self.raises(HasWishes, call, plan, self.wished, self.wished)
        self.raises(InvalidProgram, guess, plan, read_program("sum(i: (h(i) * g(i,i)))"))
        self.raises(Unseen, guess, plan, read_program("sum(i: g(i,i))"))
        for call in (guess_for, estimate_form, only_guess):
            self.raises(UnlikeWorlds, call, Plan(self.other, [("x", None, ((1,),))]), self.wished)
            self.raises(HasWishes, call, plan, self.wished + target("sum(i: g(i,i))", self.world))
        for call in (estimate_form, only_guess):
            self.raises(Barred, call, plan, target("sum(i: sum(j: sum(k: (g(i,j) * f(k)^3))))", self.world))

    def test_levels(self):
        cube = target("sum(i: f(i)^3)", self.world)
        self.raises(HasWishes, never_below, self.wished, "h")
        self.raises(UnknownName, never_below, cube, "h")
        self.raises(NotSquare, never_below, cube, "f")
        self.raises(UnlikeWorlds, never_more, cube, Form(self.other), "h")
        self.raises(UnlikeWorlds, greatest_ratio, self.wished, Form(self.other), "h")
        self.raises(HasWishes, greatest_ratio, self.wished, cube, "h")
        self.raises(NotSquare, greatest_ratio, cube, self.wished, "f")
        self.raises(InvalidRow, Blocks, self.world, [((0,), 1), ((0, 0), None)])

    def test_drawings_and_surveys(self):
        nodes = self.drawing.nodes("w")
        self.raises(InvalidDrawing, Drawing, self.plan, [nodes, None])
        self.raises(UnknownName, self.drawing.has, "x", None)
        self.raises(UnknownName, self.drawing.sees, "h", None)
        self.raises(UnlikeWorlds, self.drawing.value, self.unknown, Population(self.other))
        survey = Survey(self.plan, self.drawing)
        survey.keep("x", target("sum(i: f(i))", self.world))
        far = ((1, 1),)
        self.raises(UnknownName, survey.tell, "h", None, None)
        self.raises(InvalidEntry, survey.tell, "f", None, None)
        self.raises(Unseen, survey.tell, "f", far, None)
        self.raises(InvalidNumber, survey.tell, "f", ((1, 0),), None)
        self.raises(UnknownName, survey.take_back, "h", None)
        self.raises(NotTold, survey.take_back, "f", far)
        self.raises(InvalidRow, survey.tell_all, ("h", None, None), None)
        self.raises(UnknownName, survey.tell_all, ("h", None, None), ("f", None, None))
        self.raises(InvalidName, survey.keep, "X", self.wished)
        self.raises(DuplicateName, survey.keep, "x", self.wished)
        self.raises(HasWishes, survey.keep, "y", self.wished + target("sum(i: g(i,i))", self.world))
        blind = Plan(self.world, [("w", None, ((2, 1), (1,)))])
        self.raises(UnlikeWorlds, survey.redraw, blind, self.drawing)
        self.raises(Barred, survey.redraw, blind, Drawing(blind, [nodes]))
        self.assertEqual(survey.history(), (1, 0))


class TestBounds(unittest.TestCase):
    def test_worlds_programs_and_forms_at_their_bounds(self):
        name = "abcdefgh"
        names = [name[at:] + name[:at] for at in range(8)]
        world = World([(one, (MOST, MOST, MOST)) for one in names[:3]], [(one, 3, False, True) for one in names[2:]])
        self.assertEqual(world.size(2), MOST ** 3)
        last = (2, MOST - 1, MOST - 1, MOST - 1)
        self.assertTrue(world.is_person(last))
        program = ("times", ("num", 10 ** 9 - 1, 10 ** 9 - 2),
                   ("sum", names[0], ("power", ("power", ("trait", names[2], (names[0],) * 3), 4), 2)))
        text = program_text(program)
        self.assertEqual(read_program(text), program)
        form = form_of(world, program)
        self.assertEqual((form.degree, form.width, len(form)), (8, 1, 3))
        population = Population(world, [((names[2], (last,) * 3), -10 ** 6)])
        self.assertEqual(form.value(population), pair(Fraction(10 ** 48 * (10 ** 9 - 1), 10 ** 9 - 2)))
        self.assertEqual(constant(world, (10 ** 31 - 1, 10 ** 31 - 2)).terms()[0][1], (10 ** 31 - 1, 10 ** 31 - 2))
        plan = Plan(world, [(one, None, ((1, (1, 10 ** 31 - 1), MOST),) * 3) for one in names[:3]],
                    [(trait, names[0], ends) for trait in names[2:6] for ends in ("all", "any")])
        self.assertEqual(read_plan(write_plan(plan)), plan)
        seen = estimate_form(plan, form)
        self.assertTrue(is_right(plan, seen, form))
        self.assertEqual({factor for _, factor in seen.terms()},
                         {pair(Fraction(10 ** 9 - 1, 10 ** 9 - 2) * MOST * (10 ** 31 - 1))})

    def test_surveys_at_their_bounds(self):
        world = World([("all", (MOST,))], [("f", 3, False, False)])
        plan = Plan(world, [("w", None, ((24,),))], [("f", "w", "first")])
        people = [(0, MOST - 1 - at) for at in range(24)]
        survey = Survey(plan, Drawing(plan, [people]))
        rows = [("f", (people[at % 24], (0, at), (0, 0)), 10 ** 6 * (-1) ** at) for at in range(30)]
        survey.tell_all(*rows)
        for name in "abcdefgh":
            survey.keep(name, target("sum(i: sum(j: sum(k: f(i,j,k)^4)))", world))
        self.assertEqual((len(survey), survey.names()), (30, list("abcdefgh")))
        self.assertEqual(survey.estimate("a"), pair(Fraction(MOST, 24) * 30 * 10 ** 24))
        desk = Desk(survey)
        self.assertEqual(desk("estimate h"), str(MOST * 30 * 10 ** 24 // 24))
        self.assertEqual(desk(f"tell f 0.{MOST - 1},0.{MOST - 1},0.{MOST - 1} 1000000"), "error TooMany")
        self.assertEqual(desk("keep i 1"), "error TooMany")

    def test_numbers_of_any_size_may_be_passed_on(self):
        world = World.plain(MOST, MOST)
        form = target("sum(i: f(i))^2", world)
        for _ in range(6):
            form = form + form * (10 ** 31 - 1)
        form = (form * 3).over(10 ** 31 - 1)
        self.assertEqual(Form(world, form.terms()), form)
        blocks = never_below(target("sum(i: f(i)^2)", world) - form, "f").blocks
        self.assertEqual(Blocks(world, blocks.rows()).rows(), blocks.rows())
        self.assertEqual(blocks.value(form - form, "f"), (0, 1))
        plan = Plan(world, [("w", None, ((1, (1, 10 ** 31 - 1)),))], [("f", "w", "all")])
        found = estimate_form(plan, target("sum(i: f(i))", world) * (10 ** 31 - 1))
        self.assertEqual(constant(world, found.terms()[0][1]).terms()[0][1], found.terms()[0][1])
        self.assertIn(str((10 ** 31 - 1) ** 2 * MOST), str(found))


class TestSurveysByManyRoads(unittest.TestCase):
    def test_the_same_state_by_any_road(self):
        source = random.Random(871)
        for plan, _ in some_plans(source, 20, with_sights=True):
            drawing = source.choice(list(all_drawings(plan)))
            population = random_population(source, plan.world, 8)
            rows = seen_rows(drawing, population)
            targets = {}
            for name in "xyz":
                form = random_target(source, plan.world, 2)
                if guess_for(plan, form):
                    targets[name] = form
            one = Survey(plan, drawing)
            for name, form in targets.items():
                one.keep(name, form)
            one.tell_all(*rows)
            other = Survey(plan, source.choice(list(all_drawings(plan))))
            other.redraw(plan, drawing)
            for row in source.sample(rows, len(rows)):
                other.tell(row[0], row[1], 1)
                other.tell(*row)
                other.undo()
                other.redo()
            for name in sorted(targets, reverse=True):
                other.keep(name, targets[name])
                other.estimate(name)
                other.tried(lambda its: its.drop(name))
            self.assertEqual(one, other)
            self.assertEqual(one.twin(), other.twin())
            self.assertEqual([one.estimate(name) for name in one.names()], [other.estimate(name) for name in other.names()])
            for name, form in targets.items():
                self.assertEqual(one.estimate(name), drawing.value(estimate_form(plan, form), population))

    def test_surveys_on_average(self):
        # Over all drawings, what surveys estimate of the seen numbers is the target's number, and it spreads as told.
        source = random.Random(901)
        checked = 0
        while checked < 15:
            plan, _ = some_plans(source, 1, with_sights=True)[0]
            form = random_target(source, plan.world, 2)
            if not guess_for(plan, form) or form.degree > 4:
                continue
            checked += 1
            population = random_population(source, plan.world, 8)
            first, second = Fraction(0), Fraction(0)
            for drawing in all_drawings(plan):
                survey = Survey(plan, drawing)
                survey.tell_all(*seen_rows(drawing, population))
                survey.keep("x", form)
                number = Fraction(*survey.estimate("x"))
                first += Fraction(*drawing.chance()) * number
                second += Fraction(*drawing.chance()) * number ** 2
            self.assertEqual(form.value(population), pair(first))
            found = spread(plan, estimate_form(plan, form))
            self.assertEqual(found.value(population), pair(second - first ** 2))

    def test_drawings_with_children_exchanged(self):
        source = random.Random(881)
        for plan, _ in some_plans(source, 40, with_sights=True):
            world = plan.world
            nodes = sorted({node[:level] for node in world.all_people() for level in range(2, len(node) + 1)})
            one = source.choice(nodes)
            other = source.choice([node for node in nodes if node[:-1] == one[:-1]])
            drawing = source.choice(list(all_drawings(plan)))
            moved = Drawing(plan, [[exchanged(node, one, other) for node in drawing.nodes(name)] for name in plan.names()])
            self.assertEqual(moved.chance(), drawing.chance())
            form = random_target(source, world)
            if not guess_for(plan, form):
                continue
            population = random_population(source, world, 8)
            guessed = estimate_form(plan, form)
            self.assertEqual(moved.value(guessed, population.moved(one, other)), drawing.value(guessed, population))


def exchanged(node, one, other):
    """Where a node is after two nodes have exchanged their places."""
    for here, there in ((one, other), (other, one)):
        if node[:len(here)] == here:
            return (*there, *node[len(here):])
    return node


class TestPlansInOtherWords(unittest.TestCase):
    def test_numbers_that_draw_all(self):
        source = random.Random(891)
        for plan, _ in some_plans(source, 25, with_sights=True):
            sizes = {None: [sizes for _, sizes in plan.world.parts()]}
            waves = []
            for name, wave_source, hows in plan.waves():
                supply = sizes[wave_source]
                rows = [[many if how is None else how for how, many in zip(row, levels)] for row, levels in zip(hows, supply)]
                sizes[name] = [[how if isinstance(how, int) else None for how in row] for row in rows]
                waves.append((name, wave_source, tuple(tuple(row) for row in rows)))
            same = Plan(plan.world, waves, plan.sights())
            form = random_target(source, plan.world)
            answer = guess_for(plan, form)
            self.assertEqual(guess_for(same, form).told(), answer.told())
            if answer:
                self.assertEqual(guess_for(same, form).form, answer.form)
            lists = [[[drawing.nodes(name) for name in plan.names()] for drawing in all_drawings(its)] for its in (plan, same)]
            self.assertEqual(lists[0], lists[1])

    def test_waves_that_draw_all_of_another_one(self):
        world = World([("a", (6, 3)), ("b", (5,))], TRAITS)
        hows, alls = ((3, 2), (2,)), ((None, None), (None,))
        one = Plan(world, [("b", None, hows)], [("f", "b", "all"), ("even", "b", "any"), ("g", "b", "first")])
        other = Plan(world, [("a", None, hows), ("b", "a", alls)], one.sights())
        steps = Plan(world, [("a", None, ((5, 3), (4,))), ("b", "a", hows)], one.sights())
        for text in ("sum(i: f(i))", "sum(i: f(i))^2", "sum(i: sum(j: even(i,j)))", "sum(i: sum(j: g(i,j)^2))"):
            form = target(text, world)
            wanted = estimate_form(one, form)
            for plan in (other, steps):
                found = estimate_form(plan, form)
                # All wishes are for b, which is drawn as before: in two steps as in one.
                self.assertEqual(found, wanted)
                self.assertEqual(mean(plan, found), form)
                if form.degree * 2 <= 8 and form.width * 2 <= 4:
                    self.assertEqual(spread(plan, found), spread(one, wanted))

    def test_other_names_of_waves_and_another_order_of_sights(self):
        source = random.Random(892)
        names = {"a": "z", "b": "y", "c": "x"}
        for plan, _ in some_plans(source, 25, with_sights=True):
            waves = [(names[name], names.get(wave), hows) for name, wave, hows in plan.waves()]
            sights = [(trait, names[wave], ends) for trait, wave, ends in plan.sights()][::-1]
            same = Plan(plan.world, waves, sights)
            form = random_target(source, plan.world)
            answer, its = guess_for(plan, form), guess_for(same, form)
            self.assertEqual((answer.told(), answer.holds()), (its.told(), its.holds()))
            if answer:
                rows = [((people, tuple(tuple(sorted(names[name] for name in row)) for row in wishes), entries), factor)
                        for (people, wishes, entries), factor in answer.form.terms()]
                self.assertEqual(Form(plan.world, rows), its.form)

    def test_chances_as_independent_waves(self):
        # A fraction out of a fraction is the product of both.
        world = World([("a", (4, 3))], TRAITS)
        one = Plan(world, [("b", None, (((1, 6), (1, 4)),))], [("f", "b", "all")])
        two = Plan(world, [("a", None, (((1, 2), (3, 4)),)), ("b", "a", (((1, 3), (1, 3)),))], [("f", "b", "all")])
        for text in ("sum(i: f(i))", "sum(i: f(i))^2"):
            form = target(text, world)
            self.assertEqual(estimate_form(one, form), estimate_form(two, form))
            self.assertEqual(spread(one, estimate_form(one, form)), spread(two, estimate_form(two, form)))


class TestProgramsThroughTheWholeProgram(unittest.TestCase):
    def test_programs_with_waves_for_all_drawings(self):
        source = random.Random(902)
        for plan, _ in some_plans(source, 25, with_sights=True):
            names = tuple(plan.names())
            program = good_program(source, plan.world, names, most_width=3)
            form = plan_form(plan, read_program(program_text(program)))
            population = random_population(source, plan.world, 6)
            total = Fraction(0)
            for drawing in all_drawings(plan):
                waves = {name: drawing.people(name) for name in names}
                wanted = number_of(plan.world, program, population, waves)
                self.assertEqual(drawing.value(form, population), pair(wanted))
                total += Fraction(*drawing.chance()) * wanted
            self.assertEqual(mean(plan, form).value(population), pair(total))

    def test_programs_that_are_alike_have_the_same_answers(self):
        source = random.Random(903)
        words = {"alike": 0, "apart": 0}
        for plan, _ in some_plans(source, 60, with_sights=True):
            one = good_program(source, plan.world, most_width=2)
            other = source.choice([("plus", one, ("num", 0, 1)), good_program(source, plan.world, most_width=2)])
            answer = compare(plan.world, one, other)
            words[answer.told()] += 1
            self.assertTrue(answer.holds())
            self.assertIsInstance(answer, Alike if answer else Apart)
            if answer:
                self.assertEqual(guess_for(plan, answer.one).told(), guess_for(plan, answer.other).told())
            else:
                numbers = [number_of(plan.world, program, answer.population) for program in (one, other)]
                self.assertNotEqual(numbers[0], numbers[1])
        self.assertGreater(min(words.values()), 15)

    def test_webs_of_forms_are_standard(self):
        source = random.Random(904)
        for plan, _ in some_plans(source, 20, with_sights=True):
            answer = guess_for(plan, random_target(source, plan.world))
            form = answer.form if answer else answer.target
            for web, _ in form.terms():
                self.assertTrue(is_web(plan.world, web, waves=tuple(plan.names())))
                self.assertEqual(standard(plan.world, web), web)
                self.assertIn(web_text(web), str(form))
            population = random_population(source, plan.world, 5)
            drawing = source.choice(list(all_drawings(plan)))
            waves = {name: drawing.people(name) for name in plan.names()}
            self.assertEqual(drawing.value(form, population), pair(form_number(form, population, waves)))
            self.assertTrue(all(itertools.starmap(lambda web, factor: form.factor(web) == factor, form.terms())))


if __name__ == "__main__":
    unittest.main()
