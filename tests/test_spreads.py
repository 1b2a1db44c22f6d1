"""Tests of fewtell.spreads: the spreads of forms, and their errors against targets."""

import random
import unittest
from fractions import Fraction

from fewtell.errors import HasWishes, InvalidWeb, TooLarge, TooWide, UnlikeWorlds
from fewtell.forms import Form, constant, form_of
from fewtell.guesses import mean, mean_given, plan_form
from fewtell.plans import Plan
from fewtell.possible import estimate_form
from fewtell.spreads import error, spread
from fewtell.texts import read_program
from fewtell.webs import is_web
from fewtell.worlds import World
from tests.by_hand import TRAITS, average, form_number, random_population, random_target, random_web, some_plans

MOST = 10 ** 30
PLAIN = World.plain(9)
THREE = Plan(PLAIN, [("a", None, ((3,),))], [("f", "a", "all")])


def target(text, world=PLAIN):
    return form_of(world, read_program(text))


def shown(text, plan=THREE):
    return plan_form(plan, read_program(text))


def random_form(source, plan, many=2, most=2, largest=4):
    """A form with wishes for waves of a plan."""
    while True:
        webs = [random_web(source, plan.world, tuple(sorted(plan.names())), most) for _ in range(many)]
        form = Form(plan.world, [(web, source.choice([(1, 1), (-2, 1), (1, 3)])) for web in webs])
        if form.degree <= largest:
            return form


def first_unknown(form):
    """The first web of a form that wishes the wave b."""
    return [web for web, _ in form.terms() if any("b" in names for names in web[1])][0]


class TestSpread(unittest.TestCase):
    def test_average_of_squares_less_square_of_average(self):
        source = random.Random(591)
        for plan, drawings in some_plans(source, 50):
            form = random_form(source, plan)
            found = spread(plan, form)
            self.assertTrue(all(is_web(plan.world, web) for web, _ in found.terms()))
            population = random_population(source, plan.world, 5)
            squares = average(drawings, lambda waves: form_number(form, population, waves) ** 2)
            once = average(drawings, lambda waves: form_number(form, population, waves))
            self.assertEqual(form_number(found, population), squares - once ** 2)
            self.assertEqual(Fraction(*found.value(population)), squares - once ** 2)
            self.assertGreaterEqual(squares, once ** 2)

    def test_the_third_example(self):
        plan = Plan(World.plain(2), [("a", None, ((1,),))], [("f", "a", "all")])
        form = spread(plan, estimate_form(plan, target("sum(i: f(i))", plan.world)))
        self.assertEqual(str(form), "1 f(0)^2 @ 0.0 + -1 f(0)*f(1) @ 0.0 0.1")

    def test_known_spreads_of_totals(self):
        # The size less the drawn, times the size, over the drawn, times the square of the deviation.
        for size, many in [(9, 3), (4, 4), (MOST, 7), (MOST - 1, MOST // 2)]:
            world = World.plain(size)
            plan = Plan(world, [("a", None, ((many,),))], [("f", "a", "all")])
            total = target("sum(i: f(i))", world)
            deviations = (target("sum(i: f(i)^2)", world) - (total * total).over(size)).over(size - 1)
            wanted = (deviations * (size * (size - many))).over(many)
            self.assertEqual(spread(plan, estimate_form(plan, total)), wanted)
            plan = Plan(world, [("a", None, (((2, 7),),))], [("f", "a", "all")])
            wanted = (target("sum(i: f(i)^2)", world) * 5).over(2)
            self.assertEqual(spread(plan, estimate_form(plan, total)), wanted)

    def test_forms_that_never_change(self):
        for form in (Form(PLAIN), constant(PLAIN, (5, 3)), target("sum(i: f(i))^2"), shown("sum(i: [i@a])")):
            self.assertEqual(spread(plan=THREE, form=form), Form(PLAIN))

    def test_spread_of_the_mean_given_a_wave_and_around_it(self):
        source = random.Random(601)
        for plan, _ in some_plans(source, 60):
            form = random_form(source, plan)
            for wave in plan.names():
                inner = mean_given(plan, form, wave)
                around = mean(plan, form * form) - mean(plan, inner * inner)
                self.assertEqual(spread(plan, form), spread(plan, inner) + around)
        # In two steps: the spread between houses, and that within them.
        world = World([("all", (MOST, 100))], TRAITS)
        plan = Plan(world, [("a", None, ((50, None),)), ("b", "a", ((None, 10),))], [("f", "b", "all")])
        form = estimate_form(plan, target("sum(i: f(i))", world))
        between = spread(plan, mean_given(plan, form, "a"))
        within = mean(plan, form * form) - mean(plan, mean_given(plan, form, "a") * mean_given(plan, form, "a"))
        self.assertEqual(spread(plan, form), between + within)
        houses = Plan(world, [("a", None, ((50, None),))], [("f", "a", "all")])
        self.assertEqual(between, spread(houses, estimate_form(houses, target("sum(i: f(i))", world))))

    def test_errors(self):
        other = World.plain(8)
        unknown = Form(PLAIN, [((((0, 0),), (("b",),), (("f", (0,)),)), (1, 1))])
        wide = unknown * shown("sum(i: sum(j: (f(i) * f(j) * [i@a] * [j@a])))")
        for call in (spread, lambda plan, form: error(plan, form, target("sum(i: f(i))", other))):
            with self.assertRaises(UnlikeWorlds):
                call(THREE, target("sum(i: f(i))", other))
            for form in (unknown, wide):
                with self.assertRaises(InvalidWeb) as caught:
                    call(THREE, form)
                self.assertEqual(caught.exception.given, first_unknown(form))

    def test_limits(self):
        rows = [
            ("sum(i: (f(i)^4 * f(i)))", TooLarge, 8), ("sum(i: sum(j: sum(k: (f(i) * f(j) * f(k)))))", TooWide, 4),
            ("sum(i: sum(j: sum(k: (f(i)^3 * f(j) * f(k)))))", TooWide, 4),
        ]
        for text, wanted, most in rows:
            with self.subTest(text=text), self.assertRaises(wanted) as caught:
                spread(THREE, target(text))
            self.assertEqual(caught.exception.most, most)
        self.assertEqual(spread(THREE, target("sum(i: sum(j: (f(i)^3 * f(j))))")), Form(PLAIN))


class TestError(unittest.TestCase):
    def test_average_square_of_the_difference(self):
        source = random.Random(592)
        for plan, drawings in some_plans(source, 50):
            form = random_form(source, plan)
            aim = random_target(source, plan.world, 2)
            if aim.degree > 4:
                continue
            found = error(plan, form, aim)
            population = random_population(source, plan.world, 5)
            wanted = average(drawings, lambda waves: (form_number(form, population, waves)
                                                      - form_number(aim, population)) ** 2)
            self.assertEqual(form_number(found, population), wanted)

    def test_right_guesses_and_others(self):
        total = target("sum(i: f(i))")
        form = estimate_form(THREE, total)
        self.assertEqual(error(plan=THREE, form=form, target=total), spread(THREE, form))
        # Behind the spread stands the square of how far the average is off.
        self.assertEqual(error(THREE, 2 * form, total), spread(THREE, 2 * form) + total * total)
        self.assertEqual(error(THREE, form + constant(PLAIN, (1, 2)), total),
                         spread(THREE, form) + constant(PLAIN, (1, 4)))
        self.assertEqual(error(THREE, total, total), Form(PLAIN))

    def test_errors_in_their_order(self):
        total, wished = target("sum(i: f(i))"), shown("sum(i: ([i@a] * f(i)))")
        other = target("sum(i: f(i))", World.plain(8))
        wide = target("sum(i: sum(j: sum(k: (f(i) * f(j) * f(k)))))")
        large = target("sum(i: (f(i)^4 * f(i)))")
        unknown = Form(PLAIN, [((((0, 0),), (("b",),), (("f", (0,)),)), (1, 1))])
        rows = [
            (other, other, UnlikeWorlds), (unknown, other, InvalidWeb), (unknown, wished, InvalidWeb),
            (total, other, UnlikeWorlds), (wide, other, UnlikeWorlds), (total, wished, HasWishes),
            (wide, wished, HasWishes), (wide, total, TooWide), (total, wide, TooWide), (large, total, TooLarge),
            (total, large, TooLarge), (wide, large, TooWide),
        ]
        for form, aim, wanted in rows:
            with self.subTest(form=str(form)[:40], aim=str(aim)[:40]), self.assertRaises(wanted):
                error(THREE, form, aim)
        # Only the difference counts: webs that are in both are gone.
        self.assertEqual(error(THREE, wide + total, wide), total * total)


if __name__ == "__main__":
    unittest.main()
