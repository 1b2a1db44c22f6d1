"""Tests of fewtell.single: whether a right guess is the only one."""

import itertools
import random
import unittest
from fractions import Fraction

from fewtell.alike import Answer
from fewtell.errors import Barred, HasWishes, TooLarge, TooWide, UnlikeWorlds
from fewtell.forms import Form, constant, form_of
from fewtell.guesses import is_right, mean, plan_form
from fewtell.plans import Plan
from fewtell.populations import Population
from fewtell.possible import Possible, estimate_form, seen_web, sight
from fewtell.single import Another, One, Unsaid, is_steady, only_guess
from fewtell.spreads import spread
from fewtell.texts import read_program
from fewtell.worlds import World
from tests.by_hand import SMALL, TRAITS, all_drawings, average, form_number, random_plan, random_population, random_target

WORLD = World([("all", (9,))], TRAITS)
MOST = 10 ** 30


def target(text, world=WORLD):
    return form_of(world, read_program(text))


def shown(text, plan):
    return plan_form(plan, read_program(text))


def plan_of(*hows, sights=(("f", "a", "all"),), world=WORLD, sources=(None, None, None)):
    """A plan of a world with one level, with the waves a, b and c."""
    waves = [(name, source, ((how,),)) for name, source, how in zip("abc", sources, hows)]
    return Plan(world, waves, sights)


def over(form, number):
    return (form * number.denominator).over(number.numerator)


TOTAL = target("sum(i: f(i))")


class TestSteady(unittest.TestCase):
    def test_steady_plans(self):
        sees = [("f", "b", "all"), ("g", "b", "all"), ("flag", "b", "all"), ("even", "b", "all")]
        plans = [
            plan_of(3), plan_of(None), plan_of(0), plan_of(9), plan_of(3, sights=[("g", "a", "all")]),
            plan_of(5, 3, sources=(None, "a"), sights=sees), plan_of(None, 3, sources=(None, "a"), sights=sees[:1]),
            plan_of(5, 4, 3, sources=(None, "a", "b"), sights=[("f", "c", "all")]),
            Plan(World.plain(MOST, 5, 2), [("a", None, ((7, None, 1),))], [("f", "a", "all")]),
        ]
        for plan in plans:
            with self.subTest(waves=plan.waves()):
                self.assertIs(is_steady(plan), True)

    def test_other_plans(self):
        chain = (None, "a", "b")
        plans = [
            # A level is drawn by chance; there are no sights; the sights have several waves, or other ends.
            plan_of((1, 2)), plan_of((1, 2), None, sources=chain, sights=[("f", "b", "all")]),
            Plan(World.plain(5, 2), [("a", None, ((3, (1, 2)),))], [("f", "a", "all")]), plan_of(3, sights=[]),
            plan_of(5, 3, sources=chain, sights=[("f", "a", "all"), ("f", "b", "all")]),
            plan_of(5, 3, sources=chain, sights=[("f", "a", "all"), ("g", "b", "all")]),
            plan_of(3, sights=[("g", "a", "first")]), plan_of(3, sights=[("g", "a", "any")]),
            plan_of(3, sights=[("f", "a", "any")]), plan_of(3, sights=[("f", "a", "all"), ("g", "a", "any")]),
            # A wave is no root of the one that sees: it stands beside it, comes out of it, or out of a root of it.
            plan_of(5, 3, sources=(None, None), sights=[("f", "a", "all")]),
            plan_of(5, 3, sources=chain, sights=[("f", "a", "all")]),
            plan_of(5, 4, 3, sources=chain, sights=[("f", "b", "all")]),
            plan_of(5, 4, 3, sources=(None, "a", "a"), sights=[("f", "c", "all")]),
            plan_of(5, 4, 3, sources=(None, "a", None), sights=[("f", "b", "all")]),
            plan_of(5, None, sources=(None, None), sights=[("f", "a", "all")]),
        ]
        for plan in plans:
            with self.subTest(waves=plan.waves(), sights=plan.sights()):
                self.assertIs(is_steady(plan=plan), False)


class TestOne(unittest.TestCase):
    def test_the_guess_of_steady_plans(self):
        plans = [
            plan_of(3), plan_of(5, 3, sources=(None, "a"), sights=[("f", "b", "all")]),
            plan_of(None, 2, sources=(None, "a"), sights=[("f", "b", "all")]),
        ]
        for plan in plans:
            for text in ("sum(i: f(i))", "sum(i: f(i)^2)", "sum(i: f(i))^2", "3"):
                answer = only_guess(plan, target(text))
                self.assertEqual((answer.told(), answer.is_yes, bool(answer)), ("one", True, True))
                self.assertEqual(answer.form, estimate_form(plan, target(text)))
                self.assertEqual((answer.plan, answer.target, answer.world), (plan, target(text), WORLD))
                self.assertEqual(repr(answer), "Answer(one)")
                self.assertTrue(answer.holds())
                self.assertIsInstance(answer, Possible)
                self.assertIsInstance(answer, Answer)

    def test_wide_and_large_targets_of_steady_plans(self):
        for text in ("sum(i: f(i))^4", "(sum(i: f(i)^4)^2 + 1)"):
            answer = only_guess(plan_of(5), target(text))
            self.assertEqual((answer.told(), answer.holds()), ("one", True))

    def test_holds(self):
        steady, other = plan_of(3), plan_of((1, 3))
        self.assertTrue(One(steady, TOTAL, estimate_form(steady, TOTAL)).holds())
        self.assertFalse(One(other, TOTAL, estimate_form(other, TOTAL)).holds())
        self.assertFalse(One(steady, TOTAL, 2 * estimate_form(steady, TOTAL)).holds())
        self.assertFalse(One(steady, TOTAL, TOTAL).holds())
        self.assertFalse(One(steady, TOTAL, target("sum(i: f(i))", World.plain(8))).holds())
        wished = Form(WORLD, [((((0, 0),), (("b",),), (("f", (0,)),)), (3, 1))])
        self.assertFalse(One(steady, TOTAL, wished).holds())
        two = plan_of(5, 3, sights=[("f", "a", "all")])
        self.assertFalse(One(two, TOTAL, estimate_form(two, TOTAL)).holds())

    def test_guesses_with_names_spread_at_least_as_much(self):
        # Each guess gives a number to each drawing and each person in it; all that are right are tried at random.
        source = random.Random(541)
        for world, how, nodes in [(World.plain(4), (2,), 2), (World.plain(3), (2,), 2), (World.plain(2, 2), (1, None), 2)]:
            plan = Plan(world, [("a", None, (how,))], [("f", "a", "all")])
            drawings = all_drawings(plan)
            total = form_of(world, read_program("sum(i: f(i))"))
            best = only_guess(plan, total)
            people = list(world.all_people())
            for _ in range(4):
                weights = named_weights(source, drawings, people)
                population = random_population(source, world, 3)
                spreads = [[], []]
                for moved in all_renamed(world, population):
                    numbers = {person: moved.number("f", (person,)) for person in people}
                    wanted = sum(numbers.values())

                    def guessed(waves):
                        seen = [person for person in people if person in waves["a"]]
                        return sum(weights[tuple(seen), person] * numbers[person] for person in seen)

                    self.assertEqual(average(drawings, guessed), wanted)
                    spreads[0].append(average(drawings, lambda waves: (guessed(waves) - wanted) ** 2))
                    spreads[1].append(Fraction(*spread(plan, best.form).value(moved)))
                self.assertGreaterEqual(sum(spreads[0]), sum(spreads[1]))

    def test_only_one_guess_looks_at_no_names(self):
        # A blind guess of a total has one factor for what is in the drawing: one equation leaves one of them.
        for plan in (plan_of(3), plan_of(5, 2, sources=(None, "a"), sights=[("f", "b", "all")])):
            wave = plan.names()[-1]
            for factor in range(1, 12):
                form = shown(f"sum(i: (f(i) * [i@{wave}]))", plan) * factor
                form = form.over(2)
                same = form == estimate_form(plan, TOTAL)
                self.assertEqual(is_right(plan, form, TOTAL), same)
                self.assertEqual(One(plan, TOTAL, form).holds(), same)


def named_weights(source, drawings, people):
    """Random factors for each person in each drawing, which make the guess of a total right."""
    weights = {}
    for person in people:
        lots = [(chance, tuple(one for one in people if one in waves["a"])) for chance, waves in drawings]
        lots = [(chance, lot) for chance, lot in lots if person in lot]
        for _, lot in lots:
            weights[lot, person] = Fraction(source.randint(-3, 9))
        chance, lot = lots[0]
        rest = sum(its * weights[other, person] for its, other in lots[1:])
        weights[lot, person] = (1 - rest) / chance
    return weights


def all_renamed(world, population):
    """A population with its people renamed in every way that exchanges children of nodes."""
    found = []
    people = list(world.all_people())
    for order in itertools.permutations(people):
        names = dict(zip(people, order))
        if all(world.meet(one, other) == world.meet(names[one], names[other]) for one in people for other in people):
            rows = [((trait, tuple(names[person] for person in row)), number)
                    for (trait, row), number in population.rows()]
            found.append(Population(world, rows))
    return found


class TestAnother(unittest.TestCase):
    def check_another(self, plan, aim, difference):
        answer = only_guess(plan, aim)
        self.assertEqual((answer.told(), answer.is_yes, repr(answer)), ("another", True, "Answer(another)"))
        self.assertEqual(answer.form, estimate_form(plan, aim))
        self.assertEqual(answer.other - answer.form, difference)
        self.assertTrue(is_right(plan, answer.other, aim))
        self.assertIsInstance(answer, Possible)
        return answer

    def check_unsaid(self, plan, aim):
        answer = only_guess(plan, aim)
        self.assertEqual((answer.told(), answer.is_yes, repr(answer)), ("unsaid", True, "Answer(unsaid)"))
        self.assertEqual(answer.form, estimate_form(plan, aim))
        self.assertTrue(answer.holds())
        self.assertIsInstance(answer, Possible)

    def test_plans_that_draw_by_chance(self):
        plan = plan_of((1, 3))
        difference = shown("sum(i: [i@a])", plan) - constant(WORLD, (3, 1))
        for text in ("sum(i: f(i))", "sum(i: f(i)^4)", "5", "sum(i: sum(j: (f(i)^2 * f(j))))", "sum(i: f(i))^2"):
            self.assertTrue(self.check_another(plan, target(text), difference).holds())
        plan = Plan(World.plain(MOST, 3), [("a", None, (((1, MOST), (1, 2)),))], [("f", "a", "all")])
        difference = shown("sum(i: [i@a])", plan) - constant(plan.world, (3, 2))
        self.assertTrue(self.check_another(plan, target("sum(i: f(i))", plan.world), difference).holds())

    def test_the_first_wave_that_is_drawn_by_chance_counts(self):
        plan = plan_of(3, (1, 3), (1, 2), sights=[("f", "a", "all"), ("f", "b", "all")])
        difference = shown("sum(i: [i@b])", plan) - constant(WORLD, (3, 1))
        self.assertTrue(self.check_another(plan, TOTAL, difference).holds())
        # A wave that sees nothing counts, too; and one that is drawn out of another one by numbers alone.
        plan = plan_of((1, 2), None, sources=(None, "a"), sights=[("f", "b", "all")])
        difference = shown("sum(i: [i@a])", plan) - constant(WORLD, (9, 2))
        self.assertTrue(self.check_another(plan, TOTAL, difference).holds())
        plan = plan_of(3, (1, 2), sights=[("f", "a", "all")])
        difference = shown("sum(i: [i@b])", plan) - constant(WORLD, (9, 2))
        self.assertTrue(self.check_another(plan, TOTAL, difference).holds())

    def test_two_waves_that_see_the_same(self):
        plan = plan_of(3, 5, sights=[("f", "a", "all"), ("f", "b", "any")])
        difference = (shown("sum(i: ([i@a] * f(i)))", plan) * 3) - (shown("sum(i: ([i@b] * f(i)))", plan) * 9).over(5)
        self.assertTrue(self.check_another(plan, TOTAL, difference).holds())
        squares = target("sum(i: f(i)^2)")
        difference = (shown("sum(i: ([i@a] * f(i)^2))", plan) * 3) - (shown("sum(i: ([i@b] * f(i)^2))", plan) * 9).over(5)
        self.assertTrue(self.check_another(plan, squares, difference).holds())
        # The least web of the target that has people is looked at: that of the squares, behind a constant.
        self.assertTrue(self.check_another(plan, squares + TOTAL * TOTAL + constant(WORLD, (2, 1)), difference).holds())
        self.assertEqual((squares + TOTAL * TOTAL).terms()[0][0][2], (("f", (0,)), ("f", (0,))))

    def test_three_waves_by_numbers(self):
        sights = {wave: ("f", wave, "all") for wave in "abc"}

        def guessed(wave, plan):
            narrow = Plan(WORLD, plan.waves(), [sights[wave]])
            return estimate_form(narrow, TOTAL)

        for waves, pair in [("abc", "ab"), ("ac", "ac"), ("bc", "bc"), ("cb", "bc"), ("ab", "ab")]:
            plan = plan_of(3, 4, 5, sights=[sights[wave] for wave in waves])
            answer = self.check_another(plan, TOTAL, guessed(pair[0], plan) - guessed(pair[1], plan))
            self.assertTrue(answer.holds())
        for wave in "abc":
            self.check_unsaid(plan_of(3, 4, 5, sights=[sights[wave]]), TOTAL)
        # Two waves that draw all show the same, so that the third one counts.
        plan = plan_of(None, None, 5, sights=list(sights.values()))
        self.assertTrue(self.check_another(plan, TOTAL, guessed("a", plan) - guessed("c", plan)).holds())
        plan = plan_of(5, None, 9, sights=list(sights.values()))
        self.assertTrue(self.check_another(plan, TOTAL, guessed("a", plan) - guessed("b", plan)).holds())
        # A wave that sees nothing of the target's trait is left out, also if its number is 0.
        plan = plan_of(0, 4, 5, sights=list(sights.values()))
        self.assertTrue(self.check_another(plan, TOTAL, guessed("b", plan) - guessed("c", plan)).holds())
        plan = plan_of(3, 4, 5, sights=[("g", "a", "all"), sights["b"], sights["c"]])
        self.assertTrue(self.check_another(plan, TOTAL, guessed("b", plan) - guessed("c", plan)).holds())

    def test_waves_out_of_each_other(self):
        plan = plan_of(6, 4, 2, sources=(None, "a", "b"), sights=[("f", wave, "all") for wave in "abc"])
        difference = (shown("sum(i: ([i@a] * f(i)))", plan) * 3).over(2)
        difference = difference - (shown("sum(i: ([i@b] * f(i)))", plan) * 9).over(4)
        self.assertTrue(self.check_another(plan, TOTAL, difference).holds())

    def test_differences_that_are_always_0(self):
        self.check_unsaid(plan_of(None, None, sights=[("f", "a", "all"), ("f", "b", "all")]), TOTAL)
        self.check_unsaid(plan_of(9, None, sights=[("f", "a", "all"), ("f", "b", "any")]), TOTAL)
        self.check_unsaid(plan_of(3, 4, sights=[("f", "a", "all"), ("g", "b", "all")]), TOTAL)
        self.check_unsaid(plan_of(3, sights=[("f", "a", "any")]), TOTAL)
        plan = plan_of(3, 5, sights=[("f", "a", "all"), ("f", "b", "all")])
        self.check_unsaid(plan, constant(WORLD, (4, 1)))
        self.check_unsaid(plan, Form(WORLD))
        self.check_unsaid(plan_of(3, sights=[]), constant(WORLD, (4, 1)))

    def test_only_sights_with_both_waves_count(self):
        # Pairs that are seen through one wave only: the difference is that of the seen webs, divided by the chances.
        plan = plan_of(4, 5, sights=[("even", "a", "any"), ("even", "b", "all")])
        aim = target("sum(i: sum(j: (even(i,j) * (1 + (-1 * [i=j])))))")
        web = aim.terms()[0][0]
        parts = []
        for row in plan.sights():
            narrow = Plan(WORLD, plan.waves(), [row])
            parts.append(over(seen_web(narrow, web), Fraction(*sight(narrow, web))))
        self.assertTrue(self.check_another(plan, aim, parts[0] - parts[1]).holds())

    def test_for_all_drawings(self):
        source = random.Random(561)
        words = {"one": 0, "another": 0, "unsaid": 0}
        while min(words.values()) < 6:
            plan = random_plan(source, source.choice(SMALL))
            drawings = all_drawings(plan)
            aim = random_target(source, plan.world, 2, 1)
            if len(drawings) > 60 or aim.degree > 3 or not plan.sights():
                continue
            try:
                answer = only_guess(plan, aim)
            except Barred:
                continue
            words[answer.told()] += 1
            self.assertTrue(answer.holds())
            if answer.told() == "another":
                difference = answer.other - answer.form
                populations = [random_population(source, plan.world, 5) for _ in range(4)]
                for population in populations:
                    self.assertEqual(average(drawings, lambda waves: form_number(difference, population, waves)), 0)
                numbers = [form_number(difference, population, waves)
                           for population in populations for _, waves in drawings]
                self.assertTrue(any(numbers))

    def test_holds(self):
        plan = plan_of(3, 5, sights=[("f", "a", "all"), ("f", "b", "any")])
        one, other = [shown(text, plan) for text in ("sum(i: ([i@a] * f(i)))", "sum(i: ([i@b] * f(i)))")]
        one, other = one * 3, (other * 9).over(5)
        answer = Another(plan, TOTAL, one, other)
        self.assertTrue(answer.holds())
        self.assertEqual((answer.form, answer.other), (one, other))
        self.assertTrue(Another(plan=plan, target=TOTAL, form=other, other=one).holds())
        foreign = target("sum(i: f(i))", World.plain(9))
        wished = Form(WORLD, [((((0, 0),), (("c",),), (("f", (0,)),)), (1, 1))])
        # The same form; forms that differ by a form that is always 0; forms that are no right guesses.
        none = shown("sum(i: [i@a])", plan) - constant(WORLD, (3, 1))
        for form in (one, one + none, one + one, TOTAL, foreign, wished, Form(WORLD)):
            self.assertFalse(Another(plan, TOTAL, one, form).holds())
            self.assertFalse(Another(plan, TOTAL, form, one).holds())
        self.assertTrue(Another(plan, TOTAL, one + none, other).holds())

    def test_holds_at_the_bounds(self):
        plan = plan_of((1, 2))
        less = shown("sum(i: [i@a])", plan) - constant(WORLD, (9, 2))
        rows = [("sum(i: sum(j: (f(i)^2 * f(j)^2)))", True), ("sum(i: (f(i)^4 * f(i)))", False), ("1", True),
                ("sum(i: sum(j: sum(k: (f(i) * f(j) * f(k)))))", False), ("sum(i: f(i)^4)", True)]
        for text, holds in rows:
            form = estimate_form(plan, target(text))
            with self.subTest(text=text):
                self.assertEqual(Another(plan, target(text), form, form + less).holds(), holds)
                self.assertEqual(only_guess(plan, target(text)).holds(), holds)
        form = estimate_form(plan, TOTAL)
        wide = less * less * less
        wide = wide - mean(plan, wide)
        self.assertEqual(wide.width, 3)
        self.assertFalse(Another(plan, TOTAL, form, form + wide).holds())
        self.assertTrue(Another(plan, TOTAL, form, form + less * less - mean(plan, less * less)).holds())

    def test_unsaid_holds(self):
        plan = plan_of(3)
        self.assertTrue(Unsaid(plan, TOTAL, estimate_form(plan, TOTAL)).holds())
        self.assertFalse(Unsaid(plan, TOTAL, TOTAL).holds())
        self.assertFalse(Unsaid(plan=plan, target=TOTAL, form=Form(World.plain(2))).holds())


class TestErrors(unittest.TestCase):
    def test_errors_of_the_guess(self):
        plan = plan_of((1, 2), sights=[("f", "a", "all")])
        wished = shown("sum(i: ([i@a] * f(i)))", plan)
        with self.assertRaises(UnlikeWorlds):
            only_guess(plan, target("sum(i: f(i))", World.plain(9)))
        with self.assertRaises(HasWishes):
            only_guess(plan, wished + target("sum(i: flag(i))"))
        with self.assertRaises(Barred) as caught:
            only_guess(plan, TOTAL + target("(sum(i: flag(i)) + sum(i: sum(j: g(i,j))))"))
        self.assertEqual(caught.exception.web, (((0, 0),), ((),), (("flag", (0,)),)))
        with self.assertRaises(Barred):
            only_guess(plan_of(1), TOTAL * TOTAL)

    def test_errors_of_the_differences(self):
        plan = plan_of(5, 6, sights=[("f", "a", "all"), ("f", "b", "all")])
        rows = [("sum(i: sum(j: sum(k: (f(i) * f(j) * f(k) * (1 + (-1 * [i=j])) * (1 + (-1 * [i=k])) *"
                 " (1 + (-1 * [j=k]))))))", TooWide, 4), ("sum(i: (f(i)^4 * f(i)))", TooLarge, 8)]
        for text, error, most in rows:
            with self.assertRaises(error) as caught:
                only_guess(plan, target(text))
            self.assertEqual(caught.exception.most, most)
            # Nothing is raised where the difference is not looked at.
            self.assertEqual(only_guess(plan_of(5), target(text)).told(), "one")
            chance = plan_of(5, (1, 2), sights=[("f", "a", "all"), ("f", "b", "all")])
            self.assertEqual(only_guess(chance, target(text)).told(), "another")
            alone = plan_of(5, 6, sights=[("f", "a", "all"), ("g", "b", "all")])
            self.assertEqual(only_guess(alone, target(text)).told(), "unsaid")
        # The first of the three differences that is looked at is too great.
        sights = [("f", "b", "all"), ("f", "c", "all")]
        with self.assertRaises(TooLarge):
            only_guess(plan_of(3, 4, 5, sights=sights), target(rows[1][0]))
        # The webs that are not the least one are not looked at, not even if nothing is found for this one.
        plan = plan_of(5, 6, sights=[("f", "a", "all"), ("flag", "a", "all"), ("flag", "b", "all")])
        both = TOTAL + target("sum(i: flag(i))")
        self.assertEqual(only_guess(plan, both).told(), "unsaid")
        self.assertEqual(only_guess(plan, both - TOTAL).told(), "another")
        plan = plan_of(5, 6, sights=[("f", "a", "all"), ("f", "b", "all")])
        self.assertEqual(only_guess(plan, TOTAL + target(rows[1][0])).told(), "another")


if __name__ == "__main__":
    unittest.main()
