"""Tests of fewtell.surveys: what is told, kept, estimated, redrawn, undone and tried."""

import random
import unittest
from fractions import Fraction

from fewtell.drawings import Drawing, all_drawings
from fewtell.errors import Barred, DuplicateName, HasWishes, InvalidEntry, InvalidName, InvalidNumber, InvalidRow
from fewtell.errors import NothingLeft, NotTold, TooMany, UnknownName, UnlikeWorlds, Unseen
from fewtell.forms import Form, constant, form_of
from fewtell.guesses import plan_form
from fewtell.plans import Plan
from fewtell.populations import Population
from fewtell.possible import estimate_form
from fewtell.surveys import Survey
from fewtell.texts import read_program
from fewtell.worlds import World

TRAITS = [("f", 1, False, False), ("g", 2, False, False), ("even", 2, False, True), ("flag", 1, True, False)]
WORLD = World([("all", (9,))], TRAITS)
SIGHTS = [("f", "a", "all"), ("g", "a", "first"), ("even", "a", "any"), ("flag", "a", "all")]
PLAN = Plan(WORLD, [("a", None, ((3,),))], SIGHTS)
ONE, TWO, THREE, OUT = (0, 2), (0, 5), (0, 7), (0, 6)
ROW = [ONE, TWO, THREE]
DRAWING = Drawing(PLAN, [ROW])
MOST = 10 ** 30


def target(text, world=WORLD):
    return form_of(world, read_program(text))


TOTAL, FLAGS, PAIRS = target("sum(i: f(i))"), target("sum(i: flag(i))"), target("sum(i: sum(j: even(i,j)))")


def state_of(survey):
    """All that a survey tells of itself, besides how many estimates it computed."""
    return (survey.plan, survey.drawing, survey.told(), len(survey), survey.names(),
            [survey.target_named(name) for name in survey.names()], survey.history(), survey.kept(), survey.in_trial)


class SurveyCase(unittest.TestCase):
    def setUp(self):
        self.survey = Survey(PLAN, DRAWING)

    def refused(self, call, error, word=None, given=None):
        """That a call raises an error, and that no state changes."""
        before, computed = state_of(self.survey), self.survey.computed
        with self.assertRaises(error) as caught:
            call()
        if word is not None:
            self.assertEqual(getattr(caught.exception, word), given)
        self.assertEqual((state_of(self.survey), self.survey.computed), (before, computed))


class TestNew(SurveyCase):
    def test_a_new_survey(self):
        survey = self.survey
        self.assertEqual((survey.plan, survey.drawing, survey.told()), (PLAN, DRAWING, Population(WORLD)))
        self.assertEqual((survey.computed, survey.history(), survey.names(), survey.kept()), (0, (0, 0), [], []))
        self.assertEqual((len(survey), repr(survey), survey.in_trial), (0, "Survey(0 told)", False))
        self.assertEqual(Survey.MOST, 8)
        same = Plan(WORLD, PLAN.waves(), PLAN.sights())
        self.assertEqual(Survey(plan=same, drawing=DRAWING), survey)

    def test_drawings_of_other_plans(self):
        others = [Plan(WORLD, PLAN.waves()), Plan(WORLD, [("b", None, ((3,),))], []),
                  Plan(World.plain(9), PLAN.waves(), [("f", "a", "all")])]
        for plan in others:
            with self.assertRaises(UnlikeWorlds):
                Survey(plan, DRAWING)


class TestTell(SurveyCase):
    def test_numbers_that_are_told(self):
        survey = self.survey
        self.assertIsNone(survey.tell("f", (ONE,), 4))
        survey.tell(trait="even", people=(OUT, ONE), value=-3)
        survey.tell("flag", (TWO,), 1)
        survey.tell("g", (ONE, OUT), 0)
        rows = [(("even", (ONE, OUT)), -3), (("f", (ONE,)), 4), (("flag", (TWO,)), 1)]
        self.assertEqual(survey.told().rows(), rows)
        self.assertEqual((len(survey), repr(survey), survey.history()), (4, "Survey(4 told)", (4, 0)))
        survey.tell("f", (ONE,), 10 ** 6)
        self.assertEqual((len(survey), survey.told().number("f", (ONE,))), (4, 10 ** 6))
        survey.tell("f", (ONE,), -10 ** 6)
        survey.tell("f", (ONE,), 0)
        self.assertEqual((len(survey), survey.is_told("f", (ONE,)), len(survey.told())), (4, True, 2))

    def test_is_told(self):
        survey = self.survey
        survey.tell("even", (OUT, ONE), 0)
        self.assertIs(survey.is_told("even", (ONE, OUT)), True)
        self.assertIs(survey.is_told(trait="even", people=(OUT, ONE)), True)
        self.assertIs(survey.is_told("even", (ONE, ONE)), False)
        self.assertIs(survey.is_told("f", (OUT,)), False)

    def test_errors_in_their_order(self):
        survey = self.survey
        survey.tell("f", (ONE,), 4)
        for trait in (None, True, 3, "", "h", ["f"], ("f",)):
            self.refused(lambda: survey.tell(trait, None, None), UnknownName, "name", trait)
            self.refused(lambda: survey.take_back(trait, None), UnknownName, "name", trait)
            self.refused(lambda: survey.is_told(trait, None), UnknownName, "name", trait)
        for people in (None, True, (), ONE, [ONE], (ONE, TWO), ((0, 9),), ((0,),), ("0.2",), ((0, True),)):
            self.refused(lambda: survey.tell("f", people, None), InvalidEntry, "given", people)
            self.refused(lambda: survey.take_back("f", people), InvalidEntry, "given", people)
            self.refused(lambda: survey.is_told("f", people), InvalidEntry, "given", people)
        for trait, people, entry in [("f", (OUT,), ("f", (OUT,))), ("g", (OUT, ONE), ("g", (OUT, ONE))),
                                     ("even", (OUT, (0, 0)), ("even", ((0, 0), OUT)))]:
            self.refused(lambda: survey.tell(trait, people, None), Unseen, "web", entry)
            self.refused(lambda: survey.take_back(trait, people), NotTold, "given", entry)
        for value in (None, True, False, "1", (1,), [1], 10 ** 6 + 1, -10 ** 6 - 1, 10 ** 31 - 1, (1, 1)):
            self.refused(lambda: survey.tell("f", (ONE,), value), InvalidNumber, "given", value)
        for value in (2, -1, True, None):
            self.refused(lambda: survey.tell("flag", (ONE,), value), InvalidNumber, "given", value)

    def test_at_most_30_entries(self):
        survey = self.survey
        entries = [(one, other) for one in ROW for other in WORLD.all_people()] + [(one, one) for one in ROW]
        for at, people in enumerate(entries[:27]):
            survey.tell("g", people, at % 2)
        for people in ROW:
            survey.tell("even", (people, people), 0)
        self.assertEqual((len(survey), len(survey.told())), (30, 13))
        self.refused(lambda: survey.tell("f", (ONE,), 0), TooMany, "most", 30)
        self.refused(lambda: survey.tell_all(("g", (ONE, ONE), 5), ("f", (ONE,), 0)), TooMany, "most", 30)
        # Wrong numbers and entries that are not seen come first.
        self.refused(lambda: survey.tell("f", (ONE,), None), InvalidNumber)
        self.refused(lambda: survey.tell("f", (OUT,), 3), Unseen)
        survey.tell("g", (ONE, ONE), 7)
        survey.take_back("g", (ONE, ONE))
        survey.tell("f", (ONE,), 1)
        self.assertEqual(len(survey), 30)
        self.refused(lambda: survey.tell("g", (ONE, ONE), 1), TooMany, "most", 30)

    def test_tell_all(self):
        survey = self.survey
        self.assertIsNone(survey.tell_all(("f", (ONE,), 4), ("f", (TWO,), 5), ("f", (ONE,), 6)))
        self.assertEqual((survey.told().rows(), survey.history()), ([(("f", (ONE,)), 6), (("f", (TWO,)), 5)], (1, 0)))
        survey.tell_all()
        self.assertEqual(survey.history(), (2, 0))
        survey.undo()
        survey.undo()
        self.assertEqual((len(survey), survey.history()), (0, (0, 2)))

    def test_wrong_rows_of_tell_all(self):
        survey = self.survey
        good = ("f", (ONE,), 4)
        for row in (None, True, 3, "abc", (), ("f", (ONE,)), ["f", (ONE,), 4], (*good, 1), [good]):
            self.refused(lambda: survey.tell_all(row), InvalidRow, "index", 0)
            self.refused(lambda: survey.tell_all(good, row, None), InvalidRow, "index", 1)
            # The rows are looked at first, and only then what they tell.
            self.refused(lambda: survey.tell_all(("h", None, None), good, row), InvalidRow, "index", 2)
        self.refused(lambda: survey.tell_all(good, ("h", None, None), ("f", None, None)), UnknownName, "name", "h")
        self.refused(lambda: survey.tell_all(good, ("f", (OUT,), 1), ("h", 1, 1)), Unseen, "web", ("f", (OUT,)))
        self.refused(lambda: survey.tell_all(good, ("f", (TWO,), None), ("f", (OUT,), 1)), InvalidNumber, "given", None)
        self.refused(lambda: survey.tell_all(good, ("f", TWO, 1)), InvalidEntry, "given", TWO)

    def test_take_back(self):
        survey = self.survey
        survey.tell("even", (OUT, ONE), 3)
        survey.tell("f", (ONE,), 0)
        self.assertIsNone(survey.take_back("even", (ONE, OUT)))
        survey.take_back(trait="f", people=(ONE,))
        self.assertEqual((len(survey), survey.history(), survey.is_told("f", (ONE,))), (0, (4, 0), False))
        self.refused(lambda: survey.take_back("f", (ONE,)), NotTold, "given", ("f", (ONE,)))
        self.refused(lambda: survey.take_back("f", (OUT,)), NotTold, "given", ("f", (OUT,)))


class TestKeep(SurveyCase):
    def test_names_and_targets(self):
        survey = self.survey
        self.assertIsNone(survey.keep("total", TOTAL))
        survey.keep(name="flags", target=FLAGS)
        self.assertEqual(survey.names(), ["flags", "total"])
        self.assertEqual((survey.target_named("total"), survey.target_named(name="flags")), (TOTAL, FLAGS))
        self.assertIsNone(survey.drop(name="total"))
        self.assertEqual((survey.names(), survey.history()), (["flags"], (3, 0)))
        survey.keep("total", FLAGS)
        self.assertEqual(survey.target_named("total"), FLAGS)

    def test_errors_in_their_order(self):
        survey = self.survey
        other = target("sum(i: f(i))", World.plain(9))
        wished = plan_form(PLAN, read_program("sum(i: ([i@a] * f(i)))"))
        square = target("sum(i: sum(j: sum(k: sum(l: (f(i) * f(j) * f(k) * f(l))))))")
        survey.keep("total", TOTAL)
        for name in (None, True, 0, "", "A", "abcdefghi", "a b", "a1", ["a"], ("a",), ()):
            self.refused(lambda: survey.keep(name, other), InvalidName, "name", name)
            for call in (survey.drop, survey.target_named, survey.estimate):
                self.refused(lambda: call(name), UnknownName, "name", name)
        self.refused(lambda: survey.drop("totals"), UnknownName, "name", "totals")
        self.refused(lambda: survey.keep("total", other), DuplicateName, "name", "total")
        self.refused(lambda: survey.keep("total", TOTAL), DuplicateName, "name", "total")
        self.refused(lambda: survey.keep("other", other), UnlikeWorlds)
        self.refused(lambda: survey.keep("other", wished), HasWishes)
        self.refused(lambda: survey.keep("other", square), Barred, "web", square.terms()[-1][0])
        for name in "abcdefg":
            survey.keep(name, TOTAL)
        for given in (other, wished, square, TOTAL):
            self.refused(lambda: survey.keep("h", given), TooMany, "most", 8)
        self.refused(lambda: survey.keep("a", other), DuplicateName, "name", "a")
        self.refused(lambda: survey.keep("H", other), InvalidName, "name", "H")
        survey.drop("a")
        survey.keep("h", TOTAL)
        self.assertEqual(survey.names(), [*"bcdefgh", "total"])

    def test_estimates(self):
        survey = self.survey
        survey.keep("total", TOTAL)
        self.assertEqual(survey.estimate("total"), (0, 1))
        survey.tell("f", (ONE,), 4)
        self.assertEqual(survey.estimate(name="total"), (12, 1))
        survey.tell("f", (TWO,), -5)
        survey.tell("f", (THREE,), 2)
        self.assertEqual(survey.estimate("total"), (3, 1))
        survey.keep("squares", target("(1/7 * sum(i: f(i)^2))"))
        self.assertEqual(survey.estimate("squares"), (135, 7))
        survey.keep("none", Form(WORLD))
        survey.keep("half", constant(WORLD, (1, 2)))
        self.assertEqual((survey.estimate("none"), survey.estimate("half")), ((0, 1), (1, 2)))

    def test_estimates_are_the_guesses_of_the_drawing(self):
        source = random.Random(681)
        world = World([("a", (3, 2)), ("b", (4,))], TRAITS)
        plan = Plan(world, [("w", None, ((2, 1), (3,))), ("v", "w", ((None, None), (1,)))],
                    [("f", "w", "all"), ("even", "w", "any"), ("g", "v", "first"), ("flag", "v", "all")])
        targets = [target(text, world) for text in (
            "sum(i: f(i))", "sum(i: flag(i))", "sum(i: sum(j: even(i,j)))", "sum(i: sum(j: g(i,j)))",
            "sum(i: ([i:b] * f(i)))^2", "sum(i: (f(i) * flag(i)))", "(sum(i: f(i)^3) + 2)")]
        drawings = list(all_drawings(plan))
        for _ in range(12):
            drawing = source.choice(drawings)
            survey = Survey(plan, drawing)
            people = list(world.all_people())
            for _ in range(15):
                name, ends, is_flag, _ = source.choice(TRAITS)
                row = tuple(source.choice(people) for _ in range(ends))
                if drawing.sees(name, row):
                    survey.tell(name, row, 1 if is_flag else source.randint(-5, 5))
            for name, form in zip("abcdefg", targets):
                survey.keep(name, form)
                self.assertEqual(survey.estimate(name), drawing.value(estimate_form(plan, form), survey.told()))

    def test_estimates_are_right_on_average(self):
        world = World([("a", (2, 2)), ("b", (2,))], TRAITS)
        plan = Plan(world, [("w", None, ((1, (1, 2)), (1,)))], [("f", "w", "all"), ("even", "w", "any")])
        population = Population(world, [(("f", ((0, 0, 1),)), 4), (("f", ((1, 1),)), -3), (("f", ((0, 1, 1),)), 2),
                                        (("even", ((0, 0, 0), (1, 0))), 5), (("even", ((1, 0), (1, 0))), 7)])
        for text in ("sum(i: f(i))", "sum(i: sum(j: even(i,j)))", "sum(i: f(i)^2)"):
            found = Fraction(0)
            for drawing in all_drawings(plan):
                survey = Survey(plan, drawing)
                survey.tell_all(*[(trait, people, number) for (trait, people), number in population.rows()
                                  if drawing.sees(trait, people)])
                survey.keep("x", target(text, world))
                found += Fraction(*drawing.chance()) * Fraction(*survey.estimate("x"))
            self.assertEqual((found.numerator, found.denominator), target(text, world).value(population))

    def test_large_worlds(self):
        world = World([("all", (MOST, MOST))], TRAITS)
        plan = Plan(world, [("a", None, ((2, 2),))], [("f", "a", "all")])
        people = [(0, 5, 0), (0, 5, MOST - 1), (0, MOST - 1, 3), (0, MOST - 1, 4)]
        drawing = Drawing(plan, [[(0, 5), (0, MOST - 1), *people]])
        survey = Survey(plan, drawing)
        survey.keep("total", target("sum(i: f(i))", world))
        survey.tell_all(*[("f", (person,), 10 ** 6) for person in people])
        self.assertEqual(survey.estimate("total"), (10 ** 66, 1))


class TestKeptEstimates(SurveyCase):
    def setUp(self):
        super().setUp()
        survey = self.survey
        survey.tell_all(("f", (ONE,), 4), ("flag", (ONE,), 1), ("f", (TWO,), 0))
        for name, form in [("flags", FLAGS), ("pairs", PAIRS), ("total", TOTAL), ("two", constant(WORLD, (2, 1)))]:
            survey.keep(name, form)
            survey.estimate(name)
        survey.estimate("total")
        self.all = ["flags", "pairs", "total", "two"]
        self.assertEqual((survey.kept(), survey.computed), (self.all, 4))

    def kept(self, *names):
        self.assertEqual(self.survey.kept(), sorted(names))

    def without(self, *names):
        return [name for name in self.all if name not in names]

    def test_numbers_that_are_changed(self):
        survey = self.survey
        survey.tell("f", (ONE,), 5)
        self.kept(*self.without("total"))
        self.assertEqual((survey.estimate("total"), survey.computed), ((15, 1), 5))
        self.kept(*self.all)
        survey.tell("even", (ONE, OUT), 1)
        self.kept(*self.without("pairs"))
        survey.undo()
        self.kept(*self.without("pairs"))
        survey.estimate("pairs")
        survey.redo()
        self.kept(*self.without("pairs"))
        survey.take_back("flag", (ONE,))
        self.kept("total", "two")
        survey.undo()
        self.kept("total", "two")
        survey.estimate("flags")
        survey.tell_all(("f", (THREE,), 7), ("flag", (TWO,), 1))
        self.kept("two")

    def test_steps_that_change_no_number(self):
        survey = self.survey
        survey.tell("f", (ONE,), 4)
        survey.tell("f", (THREE,), 0)
        survey.take_back("f", (TWO,))
        survey.tell("g", (ONE, TWO), 5)
        survey.tell_all(("f", (ONE,), 9), ("f", (ONE,), 4), ("flag", (TWO,), 0))
        survey.tell_all()
        survey.keep("again", TOTAL)
        survey.drop("again")
        survey.redraw(Plan(WORLD, PLAN.waves(), PLAN.sights()), Drawing(PLAN, [ROW]))
        self.kept(*self.all)
        for _ in range(9):
            survey.undo()
        self.kept(*self.all)
        for _ in range(9):
            survey.redo()
        self.kept(*self.all)
        for name in self.all:
            survey.estimate(name)
        self.assertEqual(survey.computed, 4)

    def test_targets_that_are_dropped_and_kept_again(self):
        survey = self.survey
        survey.drop("total")
        self.kept(*self.without("total"))
        survey.undo()
        self.kept(*self.without("total"))
        survey.redo()
        survey.keep("total", TOTAL)
        self.kept(*self.without("total"))
        self.assertEqual((survey.estimate("total"), survey.computed), ((12, 1), 5))
        survey.undo()
        self.kept(*self.without("total"))
        survey.keep("total", FLAGS)
        self.assertEqual((survey.estimate("total"), survey.computed), ((3, 1), 6))

    def test_drawings_that_are_changed(self):
        survey = self.survey
        survey.redraw(PLAN, Drawing(PLAN, [[ONE, TWO, OUT]]))
        self.kept()
        survey.estimate("two")
        survey.undo()
        self.kept()
        survey.estimate("total")
        self.kept("total")
        survey.redo()
        self.kept()
        survey.undo()
        survey.estimate("total")
        plan = Plan(WORLD, PLAN.waves(), SIGHTS[::-1])
        survey.redraw(plan, Drawing(plan, [ROW]))
        self.kept()

    def test_errors_change_nothing(self):
        survey = self.survey
        self.refused(lambda: survey.tell_all(("f", (ONE,), 5), ("f", (OUT,), 5)), Unseen)
        self.refused(lambda: survey.tell("f", (ONE,), None), InvalidNumber)
        self.refused(lambda: survey.drop("none"), UnknownName)
        self.refused(lambda: survey.redo(), NothingLeft)
        self.kept(*self.all)


class TestHistory(SurveyCase):
    def test_undo_and_redo(self):
        survey = self.survey
        states = [state_of(survey)[:6]]
        larger = Plan(WORLD, [("a", None, ((4,),))], SIGHTS)
        steps = [
            lambda: survey.tell("f", (ONE,), 4), lambda: survey.keep("total", TOTAL), lambda: survey.tell_all(),
            lambda: survey.tell_all(("f", (TWO,), 3), ("flag", (TWO,), 1)), lambda: survey.take_back("f", (ONE,)),
            lambda: survey.redraw(larger, Drawing(larger, [[*ROW, OUT]])), lambda: survey.tell("f", (OUT,), 8),
            lambda: survey.drop("total"), lambda: survey.redraw(PLAN, Drawing(PLAN, [[ONE, TWO, OUT]])),
            lambda: survey.tell("f", (OUT,), 8),
        ]
        for step in steps:
            self.assertIsNone(step())
            states.append(state_of(survey)[:6])
        self.assertEqual(survey.history(), (10, 0))
        for at in range(9, -1, -1):
            self.assertIsNone(survey.undo())
            self.assertEqual((state_of(survey)[:6], survey.history()), (states[at], (at, 10 - at)))
        with self.assertRaises(NothingLeft) as caught:
            survey.undo()
        self.assertEqual(caught.exception.code, "NothingLeft")
        for at in range(1, 11):
            self.assertIsNone(survey.redo())
            self.assertEqual((state_of(survey)[:6], survey.history()), (states[at], (at, 10 - at)))
        self.refused(survey.redo, NothingLeft)
        survey.undo()
        survey.undo()
        self.refused(lambda: survey.drop("total"), UnknownName)
        self.assertEqual(survey.history(), (8, 2))
        survey.tell_all()
        self.assertEqual(survey.history(), (9, 0))
        self.refused(survey.redo, NothingLeft)

    def test_many_steps(self):
        survey = self.survey
        for number in range(300):
            survey.tell("f", (ONE,), number)
        for _ in range(100):
            survey.undo()
        self.assertEqual((survey.told().number("f", (ONE,)), survey.history()), (199, (200, 100)))

    def test_equality(self):
        survey, other = self.survey, Survey(PLAN, Drawing(PLAN, [ROW]))
        self.assertEqual(survey, other)
        survey.tell("f", (ONE,), 0)
        self.assertNotEqual(survey, other)
        other.tell_all(("f", (ONE,), 5), ("f", (ONE,), 0))
        self.assertEqual(survey, other)
        survey.keep("total", TOTAL)
        self.assertNotEqual(survey, other)
        other.keep("total", FLAGS)
        self.assertNotEqual(survey, other)
        other.undo()
        other.keep("totals", TOTAL)
        self.assertNotEqual(survey, other)
        other.drop("totals")
        other.keep("total", target("sum(k: (f(k) * 1))"))
        self.assertEqual(survey, other)
        # Neither the history nor the kept estimates count.
        other.estimate("total")
        other.tell_all()
        self.assertEqual(survey, other)
        self.assertNotEqual(survey, Survey(PLAN, Drawing(PLAN, [[ONE, TWO, OUT]])))
        for value in (None, PLAN, DRAWING, "Survey(1 told)", survey.told()):
            self.assertNotEqual(survey, value)


class TestRedraw(SurveyCase):
    def test_entries_that_are_seen_no_more(self):
        survey = self.survey
        survey.tell_all(("f", (ONE,), 4), ("f", (TWO,), 5), ("even", (ONE, TWO), 1), ("even", (TWO, OUT), 2),
                        ("g", (TWO, ONE), 3), ("flag", (ONE,), 0), ("flag", (TWO,), 0))
        self.assertIsNone(survey.redraw(plan=PLAN, drawing=Drawing(PLAN, [[ONE, THREE, (0, 0)]])))
        self.assertEqual(survey.told().rows(), [(("even", (ONE, TWO)), 1), (("f", (ONE,)), 4)])
        self.assertEqual((len(survey), survey.is_told("flag", (ONE,)), survey.is_told("flag", (TWO,))), (3, True, False))
        survey.undo()
        self.assertEqual(len(survey), 7)
        plan = Plan(WORLD, PLAN.waves(), SIGHTS[:1])
        survey.redraw(plan, Drawing(plan, [ROW]))
        self.assertEqual((len(survey), survey.plan, survey.drawing), (2, plan, Drawing(plan, [ROW])))

    def test_enlarged_drawings(self):
        survey = self.survey
        survey.keep("total", TOTAL)
        survey.tell_all(("f", (ONE,), 4), ("f", (TWO,), 5), ("f", (THREE,), 6))
        self.assertEqual(survey.estimate("total"), (45, 1))
        larger = Plan(WORLD, [("a", None, ((5,),))], SIGHTS)
        survey.redraw(larger, Drawing(larger, [[*ROW, OUT, (0, 0)]]))
        self.assertEqual(survey.estimate("total"), (27, 1))
        survey.tell("f", (OUT,), 5)
        self.assertEqual(survey.estimate("total"), (36, 1))

    def test_errors_in_their_order(self):
        survey = self.survey
        other = World.plain(9)
        foreign = Plan(other, [("a", None, ((3,),))], [("f", "a", "all")])
        blind = Plan(WORLD, PLAN.waves(), [("g", "a", "all")])
        survey.keep("z", FLAGS)
        survey.keep("b", target("(sum(i: sum(j: g(i,j))) + sum(i: f(i)^2) + sum(i: (f(i)^2 * flag(i))))"))
        for its in (survey, Survey(PLAN, DRAWING)):
            with self.assertRaises(UnlikeWorlds):
                its.redraw(foreign, Drawing(foreign, [ROW]))
        self.refused(lambda: survey.redraw(foreign, Drawing(foreign, [ROW])), UnlikeWorlds)
        self.refused(lambda: survey.redraw(foreign, DRAWING), UnlikeWorlds)
        self.refused(lambda: survey.redraw(blind, DRAWING), UnlikeWorlds)
        self.refused(lambda: survey.redraw(PLAN, Drawing(blind, [ROW])), UnlikeWorlds)
        least = (((0, 0),), ((),), (("f", (0,)), ("f", (0,))))
        self.refused(lambda: survey.redraw(blind, Drawing(blind, [ROW])), Barred, "web", least)
        survey.drop("b")
        flag = (((0, 0),), ((),), (("flag", (0,)),))
        self.refused(lambda: survey.redraw(blind, Drawing(blind, [ROW])), Barred, "web", flag)
        survey.drop("z")
        survey.redraw(blind, Drawing(blind, [ROW]))
        self.assertEqual(survey.plan, blind)

    def test_estimates_on_average_over_drawings_that_are_enlarged_by_lot(self):
        world = World.plain(5)
        small, large = [Plan(world, [("a", None, ((many,),))], [("f", "a", "all")]) for many in (2, 3)]
        total = target("sum(i: f(i))", world)
        numbers = dict(zip(world.all_people(), (4, -1, 7, 0, 2)))
        found, count = Fraction(0), 0
        for drawing in all_drawings(small):
            for person in world.all_people():
                if not drawing.has("a", person):
                    survey = Survey(small, drawing)
                    survey.keep("total", total)
                    survey.tell_all(*[("f", (one,), numbers[one]) for one in drawing.people("a")])
                    survey.redraw(large, Drawing(large, [[*drawing.nodes("a"), person]]))
                    survey.tell("f", (person,), numbers[person])
                    found, count = found + Fraction(*survey.estimate("total")), count + 1
        self.assertEqual(found / count, 12)


class TestTwin(SurveyCase):
    def test_twins_are_independent(self):
        survey = self.survey
        survey.tell("f", (ONE,), 4)
        survey.keep("total", TOTAL)
        survey.estimate("total")
        survey.tell("flag", (ONE,), 1)
        survey.undo()
        twin = survey.twin()
        self.assertEqual((twin, state_of(twin), twin.computed), (survey, state_of(survey), 1))
        self.assertEqual(twin.history(), (2, 1))
        twin.redo()
        twin.tell("f", (TWO,), 5)
        twin.estimate("total")
        self.assertEqual((survey.history(), survey.kept(), survey.computed, len(survey)), ((2, 1), ["total"], 1, 1))
        survey.drop("total")
        self.assertEqual((twin.names(), twin.kept(), twin.computed, twin.estimate("total")), (["total"], ["total"], 2, (27, 1)))
        for _ in range(4):
            twin.undo()
        self.refused(survey.redo, NothingLeft)
        self.assertEqual((twin.history(), survey.history(), len(twin), len(survey)), ((0, 4), (3, 0), 0, 1))


class TestTried(SurveyCase):
    def setUp(self):
        super().setUp()
        survey = self.survey
        survey.tell("f", (ONE,), 4)
        survey.keep("total", TOTAL)
        survey.estimate("total")
        survey.tell("flag", (ONE,), 1)
        survey.undo()

    def change_all(self, survey):
        self.assertTrue(survey.in_trial)
        larger = Plan(WORLD, [("a", None, ((4,),))], SIGHTS)
        survey.tell("f", (TWO,), 5)
        survey.undo()
        survey.undo()
        survey.undo()
        survey.tell("f", (TWO,), 7)
        survey.keep("flags", FLAGS)
        survey.estimate("flags")
        survey.redraw(larger, Drawing(larger, [[*ROW, OUT]]))
        return (survey.names(), survey.history())

    def test_all_is_put_back(self):
        survey = self.survey
        before = state_of(survey)
        self.assertEqual(survey.tried(action=self.change_all), (["flags"], (3, 0)))
        self.assertEqual((state_of(survey), survey.computed), (before, 2))
        self.assertEqual(survey.history(), (2, 1))
        survey.redo()
        survey.undo()
        survey.undo()
        self.assertEqual((survey.told().number("f", (ONE,)), survey.names()), (4, []))
        self.assertIs(survey.tried(lambda its: its), survey)
        self.assertIsNone(survey.tried(lambda its: None))

    def test_whatever_was_raised(self):
        survey = self.survey
        before = state_of(survey)
        for error in (ValueError, KeyError, KeyboardInterrupt, NothingLeft):
            def action(its):
                self.change_all(its)
                raise error()

            with self.assertRaises(error):
                survey.tried(action)
            self.assertEqual(state_of(survey), before)
        with self.assertRaises(Unseen):
            survey.tried(lambda its: its.tell("f", (OUT,), 1))
        self.assertEqual(state_of(survey), before)

    def test_trials_in_trials(self):
        survey = self.survey
        told = []

        def inner(its):
            told.append(its.in_trial)
            its.tell("f", (ONE,), 100)
            return its.estimate("total")

        def outer(its):
            its.tell("f", (ONE,), 10)
            before = state_of(its)
            found = [its.tried(inner), its.estimate("total")]
            with self.assertRaises(Unseen):
                its.tried(lambda one: one.tell("f", (OUT,), 1))
            told.append(its.in_trial)
            self.assertEqual(state_of(its)[:7], before[:7])
            its.tried(lambda one: one.drop("total"))
            self.assertEqual(its.kept(), ["total"])
            return found

        self.assertEqual(survey.tried(outer), [(300, 1), (30, 1)])
        self.assertEqual((told, survey.in_trial), ([True, True], False))
        self.assertEqual((survey.estimate("total"), survey.kept(), survey.computed), ((12, 1), ["total"], 3))

    def test_twins_of_trials(self):
        survey = self.survey
        twins = []

        def action(its):
            its.tell("f", (ONE,), 9)
            its.estimate("total")
            twins.append(its.twin())
            self.assertFalse(twins[0].in_trial)
            its.tell("f", (ONE,), 10)
            self.assertTrue(twins[0].tried(lambda one: one.in_trial))
            self.assertFalse(twins[0].in_trial)

        survey.tried(action)
        twin = twins[0]
        self.assertEqual((twin.told().number("f", (ONE,)), twin.history(), twin.kept()), (9, (3, 0), ["total"]))
        twin.undo()
        self.assertEqual(twin.told().number("f", (ONE,)), 4)
        self.assertEqual(survey.history(), (2, 1))

    def test_kept_estimates_are_put_back(self):
        survey = self.survey
        survey.keep("flags", FLAGS)
        self.assertEqual(survey.kept(), ["total"])
        survey.tried(lambda its: (its.estimate("flags"), its.tell("f", (ONE,), 0)))
        self.assertEqual((survey.kept(), survey.computed), (["total"], 2))
        survey.estimate("total")
        self.assertEqual(survey.computed, 2)
        survey.estimate("flags")
        self.assertEqual(survey.computed, 3)


class TestRandomCalls(SurveyCase):
    def test_against_a_plain_model(self):
        # The model keeps a list of all states, and asks for each estimate anew.
        source = random.Random(731)
        plans = [PLAN, Plan(WORLD, [("a", None, ((4,),))], SIGHTS), Plan(WORLD, [("a", None, (((1, 2),),))], SIGHTS)]
        people = [ONE, TWO, THREE, OUT]
        for _ in range(25):
            survey = Survey(PLAN, DRAWING)
            states, at = [(PLAN, DRAWING, {}, {})], 0
            for _ in range(40):
                plan, drawing, told, targets = states[at]
                told, targets = dict(told), dict(targets)
                word = source.choice(["tell", "back", "keep", "drop", "redraw", "undo", "redo", "estimate", "estimate"])
                person, name = source.choice(people), source.choice("xyz")
                new = None
                if word == "tell" and drawing.has("a", person):
                    told[person] = source.randint(-3, 3)
                    survey.tell("f", (person,), told[person])
                    new = (plan, drawing, told, targets)
                elif word == "back" and person in told:
                    del told[person]
                    survey.take_back("f", (person,))
                    new = (plan, drawing, told, targets)
                elif word == "keep" and name not in targets:
                    targets[name] = source.choice([TOTAL, TOTAL + FLAGS, target("sum(i: f(i)^2)")])
                    survey.keep(name, targets[name])
                    new = (plan, drawing, told, targets)
                elif word == "drop" and name in targets:
                    del targets[name]
                    survey.drop(name)
                    new = (plan, drawing, told, targets)
                elif word == "redraw":
                    plan = source.choice(plans)
                    many = plan.waves()[0][2][0][0]
                    row = source.sample(people, many if isinstance(many, int) else source.randint(0, 4))
                    drawing = Drawing(plan, [row])
                    survey.redraw(plan, drawing)
                    new = (plan, drawing, {one: told[one] for one in told if one in row}, targets)
                elif word == "undo" and at > 0:
                    survey.undo()
                    at -= 1
                elif word == "redo" and at < len(states) - 1:
                    survey.redo()
                    at += 1
                elif word == "estimate" and name in targets:
                    population = Population(WORLD, [(("f", (one,)), number) for one, number in told.items()])
                    wanted = drawing.value(estimate_form(plan, targets[name]), population)
                    self.assertEqual(survey.estimate(name), wanted)
                    computed = survey.computed
                    self.assertEqual((survey.estimate(name), survey.computed), (wanted, computed))
                if new is not None:
                    states = [*states[:at + 1], new]
                    at += 1
                plan, drawing, told, targets = states[at]
                self.assertEqual((survey.plan, survey.drawing, len(survey)), (plan, drawing, len(told)))
                self.assertEqual(survey.names(), sorted(targets))
                self.assertEqual(survey.history(), (at, len(states) - 1 - at))
                self.assertTrue(all(survey.is_told("f", (one,)) == (one in told) for one in people))


if __name__ == "__main__":
    unittest.main()
