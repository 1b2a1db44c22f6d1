"""Tests of fewtell.forms: forms, their sums and products, and their numbers."""

import random
import unittest
from fractions import Fraction

from fewtell.errors import HasWishes, InvalidRow, InvalidWeb, TooLarge, TooWide, UnlikeWorlds
from fewtell.forms import Form, constant
from fewtell.populations import Population
from fewtell.ratios import ZERO
from fewtell.webs import is_web, seatings, standard
from fewtell.worlds import World
from tests.by_hand import form_number, pair, random_population, random_web, renamed

TRAITS = [
    ("f", 1, False, False), ("g", 2, False, False), ("even", 2, False, True), ("flag", 1, True, False),
    ("mark", 2, True, True),
]
PARTS = [("north", (3, 2)), ("south", (4,))]
WORLD = World(PARTS, TRAITS)
MOST = 10 ** 30
A, B, C = (0, 0, 1), (0, 2, 0), (1, 3)
EMPTY = ((), (), ())
ONE = ((A,), ((),), (("f", (0,)),))
PAIR = ((A, B), ((), ()), (("f", (0,)), ("f", (1,))))
WISHED = ((A,), (("a",),), (("f", (0,)),))
PLAIN_VALUES = [None, True, False, 0, 1, -2, "", "f", "fg", (), [], ((),), [[]], (None, None), (None, None, None)]
NO_WEBS = [
    *PLAIN_VALUES, [(), (), ()], ((A,), ((),), ()), ((A,), (), (("f", (0,)),)), ((A,), ((),), (("k", (0,)),)),
    ((A, A), ((), ()), (("f", (0,)), ("f", (1,)))), ((A,), (("b", "a"),), ()), ((A,), ((),), (("f", (1,)),)),
    (((0, 0),), ((),), (("f", (0,)),)), ((A,), ((),), (("f", (True,)),)), ONE[:2],
]


def wide(many, entries=None):
    """A web of so many people of the second part, with so many entries."""
    people = tuple((1, number) for number in range(many))
    pairs = sorted(("f", (number % many,)) for number in range(entries or many))
    return (people, ((),) * many, tuple(pairs))


def random_form(source, world, many, most=3, waves=()):
    rows = []
    for _ in range(many):
        rows.append((random_web(source, world, waves, most), source.choice([(1, 1), (-2, 1), (1, 2), (3, 4), (-5, 3)])))
    return Form(world, rows)


class TestTerms(unittest.TestCase):
    def refused(self, terms, index):
        with self.subTest(terms=terms), self.assertRaises(InvalidRow) as caught:
            Form(WORLD, terms)
        self.assertEqual(caught.exception.index, index)
        self.assertEqual(caught.exception.code, "InvalidRow")

    def test_without_terms(self):
        for form in (Form(WORLD), Form(WORLD, []), Form(WORLD, ()), Form(terms=[], world=WORLD)):
            self.assertEqual(form.terms(), [])
            self.assertEqual([form.width, form.degree, len(form), str(form)], [0, 0, 0, "0"])
            self.assertFalse(form)

    def test_webs_are_standard_and_ascending(self):
        rows = [(PAIR, (1, 2)), (WISHED, (3, 1)), (ONE, (-1, 3)), (EMPTY, (7, 1))]
        wanted = sorted((standard(WORLD, web), factor) for web, factor in rows)
        for terms in (rows, rows[::-1], tuple(rows)):
            form = Form(WORLD, terms)
            self.assertEqual(form.terms(), wanted)
            self.assertIsInstance(form.terms(), list)

    def test_equal_webs_are_put_together(self):
        other = ((B,), ((),), (("f", (0,)),))
        swapped = ((B, A), ((), ()), (("f", (0,)), ("f", (1,))))
        form = Form(WORLD, [(ONE, (1, 2)), (PAIR, (1, 3)), (other, (1, 3)), (swapped, (2, 3)), (ONE, (1, 6))])
        self.assertEqual(form.terms(), [(standard(WORLD, ONE), (1, 1)), (standard(WORLD, PAIR), (1, 1))])

    def test_factors_that_add_up_to_0(self):
        other = ((B,), ((),), (("f", (0,)),))
        form = Form(WORLD, [(ONE, (1, 2)), (PAIR, (5, 1)), (other, (-1, 2)), (EMPTY, ZERO)])
        self.assertEqual(form.terms(), [(standard(WORLD, PAIR), (5, 1))])
        self.assertFalse(Form(WORLD, [(ONE, (1, 2)), (other, (-1, 2))]))
        self.assertFalse(Form(WORLD, [(ONE, ZERO)]))

    def test_many_names_in_each_order(self):
        source = random.Random(5)
        for _ in range(60):
            web = random_web(source, WORLD)
            rows = [(renamed(source, WORLD, web), (1, 3)) for _ in range(6)]
            self.assertEqual(Form(WORLD, rows).terms(), [(standard(WORLD, web), (2, 1))])

    def test_any_wishes(self):
        web = ((A, B), (("never", "told"), ()), (("f", (1,)),))
        self.assertEqual(len(Form(WORLD, [(web, (1, 1))])), 1)

    def test_wrong_webs_at_every_place(self):
        good = [(ONE, (1, 2)), (PAIR, (1, 1))]
        for web in NO_WEBS:
            self.refused([(web, (1, 1))], 0)
            self.refused([*good, (web, (1, 1))], 2)
            self.refused([good[0], (web, None), good[1], (None, None)], 1)

    def test_wrong_factors_at_every_place(self):
        good = [(ONE, (1, 2)), (PAIR, (1, 1))]
        for factor in [*PLAIN_VALUES, (2, 4), (1, 0), (1, -1), (True, 1), (1, True), [1, 2], (1,), (1, 2, 3), ("1", 2)]:
            self.refused([(EMPTY, factor)], 0)
            self.refused([*good, (EMPTY, factor)], 2)
            self.refused([good[0], (EMPTY, factor), None], 1)

    def test_values_that_are_no_pair(self):
        for row in [*PLAIN_VALUES, ONE, (ONE,), [ONE, (1, 1)], (ONE, (1, 1), 1), ((1, 1), ONE)]:
            self.refused([row], 0)
            self.refused([(ONE, (1, 1)), row], 1)

    def test_values_that_are_no_list(self):
        for terms in [None, True, False, 0, 3, "", "a"]:
            self.refused(terms, 0)

    def test_lists_may_be_changed_behind_it(self):
        terms = [(ONE, (1, 2)), (PAIR, (1, 1))]
        form = Form(WORLD, terms)
        self.assertEqual(terms, [(ONE, (1, 2)), (PAIR, (1, 1))])
        terms.clear()
        form.terms().append("x")
        self.assertEqual(len(form), 2)
        self.assertEqual(len(form.terms()), 2)
        self.assertIsNot(form.terms(), form.terms())

    def test_great_factors(self):
        factor = (10 ** 31 - 1, 10 ** 31 - 3)
        self.assertEqual(Form(WORLD, [(EMPTY, factor)]).factor(EMPTY), factor)


class TestFactor(unittest.TestCase):
    def setUp(self):
        self.form = Form(WORLD, [(ONE, (1, 2)), (PAIR, (-3, 1)), (WISHED, (2, 1))])

    def test_factor(self):
        rows = [
            (ONE, (1, 2)), (((B,), ((),), (("f", (0,)),)), (1, 2)), (PAIR, (-3, 1)), (WISHED, (2, 1)), (EMPTY, ZERO),
            (((C,), ((),), (("f", (0,)),)), ZERO), (((A, (0, 0, 0)), ((), ()), (("f", (0,)), ("f", (1,)))), ZERO),
            (((A,), (("b",),), (("f", (0,)),)), ZERO), (((A,), ((),), (("f", (0,)), ("f", (0,)))), ZERO),
        ]
        for web, factor in rows:
            with self.subTest(web=web):
                self.assertEqual(self.form.factor(web), factor)
                self.assertEqual(self.form.factor(web=web), factor)
                self.assertIs(web in self.form, factor != ZERO)
                self.assertIs(web not in self.form, factor == ZERO)

    def test_values_that_are_no_webs(self):
        for web in NO_WEBS:
            for form in (self.form, Form(WORLD)):
                with self.subTest(web=web), self.assertRaises(InvalidWeb) as caught:
                    form.factor(web)
                self.assertEqual(repr(caught.exception.given), repr(web))
                with self.assertRaises(InvalidWeb) as caught:
                    web in form
                self.assertEqual(repr(caught.exception.given), repr(web))

    def test_width_and_degree(self):
        rows = [
            ([], 0, 0), ([EMPTY], 0, 0), ([ONE], 1, 1), ([PAIR], 2, 2), ([PAIR, wide(1, 5)], 2, 5),
            ([wide(4), wide(1, 8)], 4, 8), ([((A,), (("a",),), ())], 1, 0), ([wide(3, 9)], 3, 9),
        ]
        for webs, width, degree in rows:
            form = Form(WORLD, [(web, (1, 1)) for web in webs])
            self.assertEqual([form.width, form.degree], [width, degree])
        with self.assertRaises(AttributeError):
            form.width = 3

    def test_world(self):
        self.assertIs(self.form.world, WORLD)


class TestOperators(unittest.TestCase):
    def setUp(self):
        self.one = Form(WORLD, [(ONE, (1, 2)), (PAIR, (-3, 1))])
        self.other = Form(WORLD, [(ONE, (-1, 2)), (EMPTY, (2, 3))])

    def test_plus_and_minus(self):
        self.assertEqual(self.one + self.other, Form(WORLD, [(PAIR, (-3, 1)), (EMPTY, (2, 3))]))
        self.assertEqual(self.one - self.other, Form(WORLD, [(ONE, (1, 1)), (PAIR, (-3, 1)), (EMPTY, (-2, 3))]))
        self.assertEqual(-self.one, Form(WORLD, [(ONE, (-1, 2)), (PAIR, (3, 1))]))
        self.assertEqual(self.one - self.one, Form(WORLD))
        self.assertEqual(self.one + Form(WORLD), self.one)
        self.assertEqual(-Form(WORLD), Form(WORLD))
        self.assertEqual(self.one, Form(WORLD, [(ONE, (1, 2)), (PAIR, (-3, 1))]))
        self.assertEqual((self.one + self.other).terms(), sorted((self.one + self.other).terms()))

    def test_times_a_number(self):
        self.assertEqual(self.one * 4, Form(WORLD, [(ONE, (2, 1)), (PAIR, (-12, 1))]))
        self.assertEqual(4 * self.one, self.one * 4)
        self.assertEqual(self.one * -1, -self.one)
        self.assertEqual(self.one * 0, Form(WORLD))
        self.assertEqual(0 * self.one, Form(WORLD))
        self.assertEqual((10 ** 31 - 1) * self.one, self.one * (10 ** 31 - 1))
        large = Form(WORLD, [(wide(4, 8), (1, 1))])
        self.assertEqual((3 * large).factor(wide(4, 8)), (3, 1))

    def test_over(self):
        self.assertEqual(self.one.over(3), Form(WORLD, [(ONE, (1, 6)), (PAIR, (-1, 1))]))
        self.assertEqual(self.one.over(number=-2), Form(WORLD, [(ONE, (-1, 4)), (PAIR, (3, 2))]))
        self.assertEqual((self.one * 7).over(7), self.one)
        self.assertEqual(Form(WORLD).over(5), Form(WORLD))

    def test_other_values(self):
        for value in [None, True, False, "a", (1, 2), [1], ONE]:
            for call in (lambda: self.one * value, lambda: value * self.one, lambda: self.one + value,
                         lambda: value + self.one, lambda: self.one - value, lambda: value - self.one):
                with self.subTest(value=value), self.assertRaises(TypeError):
                    call()
        with self.assertRaises(TypeError):
            self.one + 1

    def test_unlike_worlds(self):
        others = [World(PARTS, TRAITS[:3]), World(PARTS[:1], TRAITS), World([("north", (3, 3)), PARTS[1]], TRAITS)]
        for world in others:
            other = Form(world, [(ONE, (1, 1))])
            for call in (lambda: self.one + other, lambda: self.one - other, lambda: self.one * other,
                         lambda: other - self.one, lambda: other * self.one, lambda: self.one + Form(world)):
                with self.assertRaises(UnlikeWorlds) as caught:
                    call()
                self.assertEqual(caught.exception.code, "UnlikeWorlds")
        equal = Form(World(PARTS, TRAITS), [(ONE, (1, 1))])
        self.assertEqual((self.one + equal).factor(ONE), (3, 2))

    def test_products_by_hand(self):
        world = World.plain(3)
        form = Form(world, [((((0, 0),), ((),), (("f", (0,)),)), (1, 1))])
        self.assertEqual(str(form * form), "1 f(0)^2 @ 0.0 + 1 f(0)*f(1) @ 0.0 0.1")
        self.assertEqual(str(form * constant(world, (2, 3))), "2/3 f(0) @ 0.0")
        cube = "1 f(0)^3 @ 0.0 + 3 f(0)^2*f(1) @ 0.0 0.1 + 1 f(0)*f(1)*f(2) @ 0.0 0.1 0.2"
        self.assertEqual(str(form * form * form), cube)
        lone = World.plain(1)
        form = Form(lone, [((((0, 0),), ((),), (("f", (0,)),)), (1, 1))])
        self.assertEqual(str(form * form), "1 f(0)^2 @ 0.0")

    def test_flags_and_wishes_in_products(self):
        world = World([("a", (5,))], TRAITS)
        flag = ((((0, 0),), (("b",),), (("flag", (0,)),)))
        wish = ((((0, 0),), (("a",),), ()))
        one, other = Form(world, [(flag, (1, 1))]), Form(world, [(wish, (1, 1))])
        self.assertEqual(str(one * one), "1 flag(0) @ 0.0:b + 1 flag(0)*flag(1) @ 0.0:b 0.1:b")
        self.assertEqual(str(one * other), "1 flag(0) @ 0.0:a,b + 1 flag(1) @ 0.0:a 0.1:b")
        self.assertEqual(one * other, other * one)

    def test_width_4_and_5(self):
        for one, other in [(1, 3), (2, 2), (4, 0), (3, 1)]:
            forms = [Form(WORLD, [(wide(many) if many else EMPTY, (1, 1))]) for many in (one, other)]
            self.assertEqual((forms[0] * forms[1]).width, 4)
        for one, other in [(1, 4), (4, 1), (2, 3), (3, 2), (4, 4)]:
            forms = [Form(WORLD, [(wide(many), (1, 1))]) for many in (one, other)]
            with self.assertRaises(TooWide) as caught:
                forms[0] * forms[1]
            self.assertEqual(caught.exception.most, 4)

    def test_degree_8_and_9(self):
        for one, other in [(4, 4), (7, 1), (8, 0), (1, 7)]:
            forms = [Form(WORLD, [(wide(1, many) if many else EMPTY, (1, 1))]) for many in (one, other)]
            self.assertEqual((forms[0] * forms[1]).degree, 8)
        for one, other in [(8, 1), (4, 5), (1, 8), (9, 0)]:
            forms = [Form(WORLD, [(wide(1, many) if many else EMPTY, (1, 1))]) for many in (one, other)]
            with self.assertRaises(TooLarge) as caught:
                forms[0] * forms[1]
            self.assertEqual(caught.exception.most, 8)

    def test_the_first_error_counts(self):
        with self.assertRaises(TooWide):
            Form(WORLD, [(wide(4, 8), (1, 1))]) * Form(WORLD, [(wide(1, 8), (1, 1))])
        with self.assertRaises(UnlikeWorlds):
            Form(WORLD, [(wide(4, 8), (1, 1))]) * Form(World(PARTS, TRAITS[:1]), [(wide(4, 8), (1, 1))])

    def test_a_product_with_0(self):
        self.assertEqual(Form(WORLD) * Form(WORLD, [(wide(4, 8), (1, 1))]), Form(WORLD))
        with self.assertRaises(TooLarge):
            Form(WORLD) * Form(WORLD, [(wide(4, 9), (1, 1))])

    def test_numbers_of_sums_and_products(self):
        source = random.Random(11)
        sizes = [[("a", (2, 2))], [("a", (3,)), ("b", (1, 2))], [("a", (2,))]]
        worlds = [World(parts, TRAITS) for parts in sizes]
        for number in range(90):
            world = worlds[number % 3]
            one, other = random_form(source, world, 2, 2), random_form(source, world, 2, 2)
            while one.degree + other.degree > 8:
                one, other = random_form(source, world, 2, 2), random_form(source, world, 2, 2)
            population = random_population(source, world, 6)
            its, others = Fraction(*one.value(population)), Fraction(*other.value(population))
            self.assertEqual((one * other).value(population), pair(its * others))
            self.assertEqual((one + other).value(population), pair(its + others))
            self.assertEqual((one - other).value(population), pair(its - others))
            self.assertEqual((-one).value(population), pair(-its))
            self.assertEqual((5 * one).over(3).value(population), pair(its * 5 / 3))
            self.assertEqual(one * other, other * one)

    def test_numbers_of_products_for_each_drawing(self):
        source = random.Random(12)
        world = World([("a", (2, 2)), ("b", (1,))], TRAITS)
        people = list(world.all_people())
        for _ in range(40):
            one, other = random_form(source, world, 2, 2, ("a", "b")), random_form(source, world, 2, 2, ("a", "b"))
            if one.degree + other.degree > 8:
                continue
            population = random_population(source, world, 6)
            waves = {name: [person for person in people if source.random() < 0.7] for name in ("a", "b")}
            product = form_number(one, population, waves) * form_number(other, population, waves)
            self.assertEqual(form_number(one * other, population, waves), product)


class TestValue(unittest.TestCase):
    def test_by_hand(self):
        world = World.plain(4)
        population = Population(world, [(("f", ((0, 0),)), 3), (("f", ((0, 2),)), -5), (("f", ((0, 3),)), 2)])
        one, two = (((0, 0),), ((),)), (((0, 0), (0, 1)), ((), ()))
        rows = [
            (EMPTY, 1), ((*one, (("f", (0,)),)), 0), ((*one, (("f", (0,)),) * 2), 38),
            ((*one, (("f", (0,)),) * 3), -90),
            ((*two, (("f", (0,)), ("f", (1,)))), 2 * (-15 + 6 - 10)),
            ((*two, (("f", (0,)), ("f", (1,)), ("f", (1,)))), 3 * 29 - 5 * 13 + 2 * 34),
        ]
        for web, number in rows:
            with self.subTest(web=web):
                self.assertEqual(Form(world, [(web, (1, 1))]).value(population), (number, 1))
                self.assertEqual(Form(world, [(web, (2, 7))]).value(population), pair(Fraction(2 * number, 7)))
        self.assertEqual(Form(world).value(population), ZERO)
        self.assertEqual(constant(world, (3, 4)).value(population), (3, 4))

    def test_against_all_seatings(self):
        source = random.Random(13)
        worlds = [
            World([("a", (4,))], TRAITS), World([("a", (2, 2))], TRAITS),
            World([("a", (2, 1, 2)), ("b", (2,))], TRAITS), World([("a", (1,)), ("b", (2,)), ("c", (1, 2))], TRAITS),
        ]
        for number in range(120):
            world = worlds[number % 4]
            form = random_form(source, world, 3)
            population = random_population(source, world, source.choice([0, 3, 8, 12]))
            self.assertEqual(form.value(population), pair(form_number(form, population)))
            self.assertEqual(form.value(population=population), form.value(population))

    def test_all_of_a_small_world(self):
        world = World([("a", (2, 2)), ("b", (3,))], [("f", 1, True, False)])
        people = list(world.all_people())
        population = Population(world, [(("f", (person,)), 1) for person in people])
        for many in range(1, 5):
            chosen = tuple(people[:many])
            web = (chosen, ((),) * many, tuple(("f", (at,)) for at in range(many)))
            self.assertEqual(Form(world, [(web, (1, 1))]).value(population), (seatings(world, web), 1))

    def test_great_worlds(self):
        world = World([("a", (MOST, MOST, 3))], TRAITS)
        one, near, far = (0, 5, MOST - 1, 2), (0, 5, MOST - 1, 0), (0, 5, 0, 2)
        rows = [
            (("f", (one,)), 2), (("f", (near,)), 3), (("f", (far,)), 5), (("even", (far, one)), 7),
            (("g", (one, far)), 11),
        ]
        population = Population(world, rows)

        def number(people, *pairs):
            return Form(world, [((people, ((),) * len(people), tuple(sorted(pairs))), (1, 1))]).value(population)

        both = [("f", (0,)), ("f", (1,))]
        self.assertEqual(number((one, near), *both), (12, 1))
        self.assertEqual(number((one, far), *both), (50, 1))
        self.assertEqual(number((one, (0, 6, 0, 0)), *both), (0, 1))
        self.assertEqual(number((one, far), ("even", (0, 1))), (14, 1))
        self.assertEqual(number((one, far), ("even", (0, 1)), ("f", (0,))), (49, 1))
        self.assertEqual(number((one, far), ("g", (0, 1))), (11, 1))
        self.assertEqual(number((one, near), ("g", (0, 1))), (0, 1))
        self.assertEqual(number((one, near, far), *both, ("f", (2,))), (60, 1))

    def test_numbers_that_are_great(self):
        world = World.plain(MOST)
        population = Population(world, [(("f", ((0, number),)), 10 ** 6 - number) for number in range(30)])
        web = (((0, 0),), ((),), (("f", (0,)),) * 8)
        wanted = sum((10 ** 6 - number) ** 8 for number in range(30))
        self.assertEqual(Form(world, [(web, (1, 1))]).value(population), (wanted, 1))

    def test_errors(self):
        form = Form(WORLD, [(ONE, (1, 1)), (WISHED, (1, 1))])
        other = World(PARTS, TRAITS[:3])
        with self.assertRaises(HasWishes) as caught:
            form.value(Population(WORLD))
        self.assertEqual(caught.exception.code, "HasWishes")
        for its in (form, Form(WORLD), Form(WORLD, [(ONE, (1, 1))])):
            with self.assertRaises(UnlikeWorlds):
                its.value(Population(other))
        self.assertEqual((form - Form(WORLD, [(WISHED, (1, 1))])).value(Population(World(PARTS, TRAITS))), ZERO)


class TestForm(unittest.TestCase):
    def test_equality(self):
        one = Form(WORLD, [(ONE, (1, 2)), (PAIR, (1, 1))])
        self.assertTrue(one == Form(World(PARTS, TRAITS), [(PAIR, (1, 1)), (ONE, (1, 2))]))
        self.assertFalse(one != Form(WORLD, [(PAIR, (1, 1)), (ONE, (1, 2))]))
        others = [
            Form(WORLD), Form(WORLD, [(ONE, (1, 2))]), Form(WORLD, [(ONE, (1, 3)), (PAIR, (1, 1))]),
            Form(WORLD, [(ONE, (1, 2)), (PAIR, (1, 1)), (EMPTY, (1, 1))]),
            Form(WORLD, [(WISHED, (1, 2)), (PAIR, (1, 1))]),
            Form(World(PARTS, TRAITS[:3]), [(ONE, (1, 2)), (PAIR, (1, 1))]),
        ]
        for other in others:
            self.assertFalse(one == other)
            self.assertTrue(one != other)
        for value in [*PLAIN_VALUES, one.terms(), str(one), WORLD]:
            self.assertFalse(one == value)
            self.assertFalse(value == one)
        self.assertFalse(Form(WORLD) == Form(World(PARTS, TRAITS[:1])))

    def test_truth_and_len(self):
        self.assertIs(bool(Form(WORLD)), False)
        self.assertIs(bool(Form(WORLD, [(EMPTY, (1, 1))])), True)
        self.assertEqual(len(Form(WORLD, [(EMPTY, (1, 1)), (ONE, (1, 1)), (PAIR, (1, 1))])), 3)

    def test_texts(self):
        form = Form(WORLD, [(ONE, (-1, 2)), (PAIR, (3, 1)), (EMPTY, (7, 3)), (WISHED, (1, 1))])
        self.assertEqual(str(form), "7/3 1 + -1/2 f(0) @ 0.0.0 + 1 f(0) @ 0.0.0:a + 3 f(0)*f(1) @ 0.0.0 0.1.0")
        self.assertEqual(str(Form(WORLD)), "0")
        self.assertEqual(str(constant(WORLD, (1, 1))), "1 1")
        self.assertEqual(repr(form), "Form(4 webs)")
        self.assertEqual(repr(Form(WORLD)), "Form(0 webs)")
        self.assertEqual(repr(constant(WORLD, (1, 1))), "Form(1 webs)")

    def test_factors_of_many_digits(self):
        form = constant(WORLD, (10 ** 31 - 1, 10 ** 31 - 2))
        for _ in range(8):
            form = form * form
        top = (10 ** 31 - 1) ** 256
        # The texts are compared by their parts: Python itself refuses to write so many digits.
        text = str(form)
        self.assertEqual(text.count("/"), 1)
        self.assertEqual(text[-2:], " 1")
        digits = text.split("/")[0]
        self.assertEqual(len(digits), 31 * 256)
        self.assertEqual(int(digits[:4000]), top // 10 ** (31 * 256 - 4000))
        self.assertEqual(int(digits[-4000:]), top % 10 ** 4000)

    def test_constant(self):
        for value in [(0, 1), (1, 1), (-3, 4), (10 ** 31 - 1, 2)]:
            form = constant(WORLD, value)
            self.assertEqual(form.factor(EMPTY), value)
            self.assertEqual(len(form), 0 if value == ZERO else 1)
            self.assertEqual(form.value(Population(WORLD)), value)
        self.assertEqual(constant(value=(1, 2), world=WORLD), Form(WORLD, [(EMPTY, (1, 2))]))

    def test_operators_keep_webs_standard(self):
        source = random.Random(14)
        world = World([("a", (3, 2)), ("b", (2,))], TRAITS)
        for _ in range(40):
            one, other = random_form(source, world, 2, 2, ("a",)), random_form(source, world, 2, 2, ("a",))
            if one.degree + other.degree <= 8:
                for web, factor in (one * other).terms():
                    self.assertTrue(is_web(world, web, waves=("a",)))
                    self.assertEqual(standard(world, web), web)
                    self.assertNotEqual(factor, ZERO)


if __name__ == "__main__":
    unittest.main()
