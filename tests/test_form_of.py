"""Tests of fewtell.forms: the forms of programs."""

import itertools
import random
import unittest
from fractions import Fraction

from fewtell.errors import InvalidProgram, TooLarge, TooMany, TooWide
from fewtell.forms import Form, constant, form_of
from fewtell.populations import Population
from fewtell.texts import read_program
from fewtell.webs import is_web, standard
from fewtell.worlds import World
from tests.by_hand import good_program, number_of, pair, random_population

TRAITS = [
    ("f", 1, False, False), ("g", 2, False, False), ("even", 2, False, True), ("flag", 1, True, False),
    ("mark", 2, True, True), ("three", 3, False, False),
]
MOST = 10 ** 30
SMALL = [
    World(parts, TRAITS) for parts in [
        [("a", (1,))], [("a", (2,))], [("a", (3,))], [("a", (2, 2))], [("a", (1, 2)), ("b", (2,))], [("a", (2, 1, 2))],
        [("a", (1,)), ("b", (1, 1)), ("c", (2,))], [("a", (1, 1, 1))],
    ]
]
# Each form of a program, in a sum or with some; the parts `a` and `b` and each level occur.
TEXTS = [
    "3", "-2/7", "0", "sum(i: 1)", "sum(i: f(i))", "sum(i: sum(j: g(i,j)))", "sum(i: g(i,i))",
    "sum(i: sum(j: even(i,j)))", "sum(i: sum(j: (even(i,j) * even(j,i))))", "sum(i: flag(i)^3)",
    "sum(i: sum(j: (mark(i,j) * mark(j,i))))", "sum(i: sum(j: sum(k: three(k,i,j))))", "sum(i: sum(j: three(i,j,i)))",
    "sum(i: sum(j: [i=j]))", "sum(i: sum(j: ([i=j] * f(i))))", "sum(i: [i=i])", "sum(i: sum(j: ([i=j] * g(i,j))))",
    *[f"sum(i: sum(j: [i~j:{level}]))" for level in range(4)],
    *[f"sum(i: sum(j: ([i~j:{level}] * f(i) * f(j))))" for level in range(4)],
    *[f"sum(i: ([i~i:{level}] * f(i)))" for level in range(4)],
    "sum(i: [i:a])", "sum(i: ([i:a] * f(i)))", "sum(i: sum(j: ([i:a] * g(i,j))))",
    "sum(i: sum(j: (f(i) + f(j))))", "sum(i: (f(i) * sum(j: f(j))))", "(sum(i: f(i)) * sum(i: f(i)))",
    "(sum(i: f(i)) + -1 + sum(j: flag(j)))", "sum(i: f(i))^0", "sum(i: f(i))^1", "sum(i: f(i))^2", "sum(i: f(i))^3",
    "sum(i: f(i)^0)", "sum(i: f(i)^4)", "sum(i: (f(i) + 1)^2)", "sum(i: (f(i) + (-1/3 * flag(i)))^2)",
    "(sum(i: f(i)) + 2)^3", "((2/3)^4 * sum(i: (f(i)^2)^2))", "sum(i: sum(j: (f(i) + (-1 * f(j)))^2))",
    "sum(i: (sum(j: ([i~j:1] * f(j)))^2 * flag(i)))", "sum(i: sum(j: ((1 + (-1 * [i=j])) * f(i))))",
    "sum(i: sum(j: sum(k: ([i~j:1] * [j=k] * f(k)))))", "(0 * sum(i: f(i)))", "(sum(i: f(i)) + (-1 * sum(j: f(j))))",
]


def within(part, *variables):
    for variable in reversed(variables):
        part = ("sum", variable, part)
    return part


class TestNumbers(unittest.TestCase):
    def check(self, world, program, population):
        wanted = pair(number_of(world, program, population))
        self.assertEqual(form_of(world, program).value(population), wanted, (world.parts(), program, population.rows()))

    def test_each_form_of_a_program(self):
        source = random.Random(21)
        for world in SMALL:
            for text in TEXTS:
                program = read_program(text)
                for many in (0, 2, 6, 12):
                    self.check(world, program, random_population(source, world, many))

    def test_random_programs(self):
        source = random.Random(22)
        for number in range(600):
            world = SMALL[number % len(SMALL)]
            program = good_program(source, world, most_width=4 if len(list(world.all_people())) < 4 else 3)
            form = form_of(world, program)
            for many in (1, 5, 12):
                population = random_population(source, world, many)
                wanted = pair(number_of(world, program, population))
                self.assertEqual(form.value(population), wanted, (world.parts(), program, population.rows()))

    def test_webs_are_standard(self):
        source = random.Random(23)
        for number in range(200):
            world = SMALL[number % len(SMALL)]
            form = form_of(world, good_program(source, world))
            for web, factor in form.terms():
                self.assertTrue(is_web(world, web))
                self.assertEqual(standard(world, web), web)
                self.assertNotEqual(factor[0], 0)


class TestForms(unittest.TestCase):
    def text(self, world, text):
        return str(form_of(world, read_program(text)))

    def test_the_first_example(self):
        program = read_program("sum(i: sum(j: (f(i) * f(j))))")
        self.assertEqual(str(form_of(World.plain(3), program)), "1 f(0)^2 @ 0.0 + 1 f(0)*f(1) @ 0.0 0.1")
        self.assertEqual(form_of(program=program, world=World.plain(3)), form_of(World.plain(3), program))

    def test_people_that_are_taken_out(self):
        world = World([("a", (5, 4)), ("b", (7,))], TRAITS)
        rows = [
            ("sum(i: 1)", "27 1"), ("sum(i: [i:b])", "7 1"), ("sum(i: sum(j: [i=j]))", "27 1"),
            ("sum(i: sum(j: [i~j:0]))", "449 1"), ("sum(i: sum(j: [i~j:1]))", "87 1"),
            ("sum(i: sum(j: [i~j:2]))", "20 1"), ("sum(i: sum(j: [i~j:3]))", "0"),
            ("sum(i: sum(j: f(i)))", "27 f(0) @ 0.0.0 + 27 f(0) @ 1.0"),
            ("sum(i: sum(j: ([i~j:1] * f(i))))", "4 f(0) @ 0.0.0 + 1 f(0) @ 1.0"),
            ("sum(i: sum(j: ([i~j:0] * f(i))))", "20 f(0) @ 0.0.0 + 7 f(0) @ 1.0"),
            ("sum(i: sum(j: ([i:b] * [j:a] * f(j))))", "7 f(0) @ 0.0.0"),
            ("sum(i: ([i:a] * f(i)))", "1 f(0) @ 0.0.0"), ("sum(i: f(i)^0)", "27 1"),
            ("sum(i: sum(j: sum(k: ([j~k:1] * [i:b] * f(i)))))", "87 f(0) @ 1.0"),
            ("sum(i: sum(j: sum(k: ([i~j:1] * [i~k:1] * [i:a] * f(i)))))", "16 f(0) @ 0.0.0"),
        ]
        for text, wanted in rows:
            with self.subTest(text=text):
                self.assertEqual(self.text(world, text), wanted)

    def test_worlds_that_have_too_few_people(self):
        text = "sum(i: sum(j: (f(i) * f(j))))"
        rows = [
            ([("a", (1,))], "1 f(0)^2 @ 0.0"), ([("a", (2,))], "1 f(0)^2 @ 0.0 + 1 f(0)*f(1) @ 0.0 0.1"),
            ([("a", (1, 2))], "1 f(0)^2 @ 0.0.0 + 1 f(0)*f(1) @ 0.0.0 0.0.1"),
            ([("a", (2, 1))], "1 f(0)^2 @ 0.0.0 + 1 f(0)*f(1) @ 0.0.0 0.1.0"),
            ([("a", (1,)), ("b", (1,))], "1 f(0)^2 @ 0.0 + 2 f(0)*f(1) @ 0.0 1.0 + 1 f(0)^2 @ 1.0"),
            ([("a", (1, 1, 1))], "1 f(0)^2 @ 0.0.0.0"),
        ]
        for parts, wanted in rows:
            with self.subTest(parts=parts):
                self.assertEqual(self.text(World(parts, TRAITS), text), wanted)
        three = "sum(i: sum(j: sum(k: (f(i) * f(j) * f(k)))))"
        self.assertEqual(self.text(World.plain(2), three), "1 f(0)^3 @ 0.0 + 3 f(0)^2*f(1) @ 0.0 0.1")
        self.assertEqual(self.text(World.plain(2, 1), "sum(i: sum(j: sum(k: ([i~j:1] * [j~k:1] * f(k)))))"),
                         "1 f(0) @ 0.0.0")

    def test_numbers_and_powers(self):
        world = World.plain(3)
        self.assertEqual(self.text(world, "(1/2 + 1/3)"), "5/6 1")
        self.assertEqual(self.text(world, "(1/2 * -2/3)"), "-1/3 1")
        self.assertEqual(self.text(world, "(-2/3)^3"), "-8/27 1")
        self.assertEqual(self.text(world, "(-2/3)^0"), "1 1")
        self.assertEqual(self.text(world, "(0)^0"), "1 1")
        self.assertEqual(self.text(world, "(0)^1"), "0")
        self.assertEqual(self.text(world, "(1 + -1)"), "0")
        self.assertEqual(self.text(world, "(sum(i: f(i))^2 + -1/2)"), "-1/2 1 + 1 f(0)^2 @ 0.0 + 1 f(0)*f(1) @ 0.0 0.1")
        self.assertEqual(form_of(world, read_program("4/7")), constant(world, (4, 7)))

    def test_a_power_with_the_count_0_is_not_looked_at(self):
        world = World.plain(3)
        many = ("plus", *[("num", 1, 1)] * 8)
        for _ in range(5):
            many = ("power", many, 4)
        self.assertEqual(form_of(world, ("power", many, 0)), constant(world, (1, 1)))
        wide = within(("trait", "f", ("i",)), "i", "j", "k", "l", "m")
        self.assertEqual(form_of(world, ("times", ("power", wide, 0), ("num", 3, 1))), constant(world, (3, 1)))

    def test_powers_inside_of_one_another(self):
        test, number = ("near", 1, "i", "i"), ("num", -1, 1)
        for _ in range(8):
            test, number = ("power", test, 4), ("power", number, 3)
        world = World([("a", (3, 2)), ("b", (4,))], TRAITS)
        self.assertEqual(str(form_of(world, ("sum", "i", test))), "10 1")
        self.assertEqual(str(form_of(world, number)), "-1 1")

    def test_numbers_of_many_digits(self):
        program = ("num", 999999999, 999999998)
        for _ in range(4):
            program = ("power", program, 4)
        factor = (999999999 ** 256, 999999998 ** 256)
        self.assertEqual(form_of(World.plain(3), program).terms(), [(((), (), ()), factor)])

    def test_flags(self):
        world = World([("a", (4,))], TRAITS)
        self.assertEqual(self.text(world, "sum(i: flag(i)^4)"), "1 flag(0) @ 0.0")
        self.assertEqual(self.text(world, "sum(i: (flag(i) * f(i) * flag(i)))"), "1 f(0)*flag(0) @ 0.0")
        self.assertEqual(self.text(world, "sum(i: sum(j: (mark(i,j) * mark(j,i))))"),
                         "1 mark(0,0) @ 0.0 + 1 mark(0,1) @ 0.0 0.1")
        self.assertEqual(self.text(world, "sum(i: flag(i))^2"), "1 flag(0) @ 0.0 + 1 flag(0)*flag(1) @ 0.0 0.1")

    def test_even_traits(self):
        world = World([("a", (4,))], TRAITS)
        one, other = "sum(i: sum(j: (even(i,j) * f(i))))", "sum(i: sum(j: (even(j,i) * f(i))))"
        self.assertEqual(form_of(world, read_program(one)), form_of(world, read_program(other)))
        one, other = one.replace("even", "g"), other.replace("even", "g")
        self.assertNotEqual(form_of(world, read_program(one)), form_of(world, read_program(other)))

    def test_great_worlds(self):
        world = World([("a", (MOST, 3, MOST)), ("b", (MOST,))], TRAITS)
        size = 3 * MOST * MOST
        below = [size, 3 * MOST, MOST, 1]
        rows = [("sum(i: 1)", size + MOST), ("sum(i: sum(j: 1))", (size + MOST) ** 2), ("sum(i: [i:a])", size)]
        for level in range(4):
            last = MOST ** 2 if level == 0 else MOST if level == 1 else 0
            rows.append((f"sum(i: sum(j: [i~j:{level}]))", size * below[level] + last))
        for text, wanted in rows:
            with self.subTest(text=text):
                self.assertEqual(self.text(world, text), f"{wanted} 1")
        text = "sum(i: sum(j: ([i:a] * [i~j:1] * f(i))))"
        self.assertEqual(self.text(world, text), f"{3 * MOST} f(0) @ 0.0.0.0")
        # Those who meet at the level 1 and no deeper one.
        text = "sum(i: sum(j: ([i:a] * [i~j:1] * (1 + (-1 * [i~j:2])) * f(i))))"
        self.assertEqual(self.text(world, text), f"{2 * MOST} f(0) @ 0.0.0.0")
        text = "sum(i: sum(j: ([i:a] * [i~j:2] * (1 + (-1 * [i=j])) * f(i))))"
        self.assertEqual(self.text(world, text), f"{MOST - 1} f(0) @ 0.0.0.0")

    def test_great_worlds_have_the_numbers_of_their_people(self):
        world = World.plain(MOST, MOST)
        one, near, far = (0, 7, 8), (0, 7, 9), (0, 8, 8)
        population = Population(world, [(("f", (one,)), 2), (("f", (near,)), 3), (("f", (far,)), 5)])
        rows = [
            ("sum(i: f(i))", 10), ("sum(i: f(i))^2", 100), ("sum(i: f(i)^2)", 38),
            ("sum(i: sum(j: ([i~j:1] * f(i) * f(j))))", 50), ("sum(i: sum(j: (f(i) + (-1 * f(j)))^2))", None),
            ("sum(i: sum(j: ([i~j:1] * f(i))))", 10 * MOST), ("sum(i: sum(j: sum(k: f(j))))", 10 * MOST ** 4),
        ]
        for text, wanted in rows:
            value = form_of(world, read_program(text)).value(population)
            if wanted is None:
                wanted = 2 * 38 * MOST ** 2 - 200
            self.assertEqual(value, (wanted, 1), text)

    def test_a_world_of_all_kinds_of_ways(self):
        """Four people in three deep parts: the number is that of all ways to give people to the variables."""
        world = World([("a", (3, 3, 3)), ("b", (2, 2, 2)), ("c", (4,))], TRAITS)
        form = form_of(world, read_program("sum(i: sum(j: sum(k: sum(l: 1))))"))
        self.assertEqual(str(form), f"{(27 + 8 + 4) ** 4} 1")
        form = form_of(world, read_program("sum(i: f(i))^4"))
        people = list(world.all_people())
        source = random.Random(24)
        for _ in range(3):
            rows = [(("f", (person,)), source.randint(1, 9)) for person in source.sample(people, 9)]
            total = sum(number for _, number in rows)
            self.assertEqual(form.value(Population(world, rows)), (total ** 4, 1))


class TestErrors(unittest.TestCase):
    def refused(self, program, error):
        with self.subTest(program=program), self.assertRaises(error) as caught:
            form_of(World.plain(5), program)
        return caught.exception

    def test_programs_at_the_bounds_and_one_beyond(self):
        f = ("trait", "f", ("i",))
        names = ["i", "j", "k", "l", "m"]
        self.assertEqual(str(form_of(World.plain(5), within(f, *names[:4]))), "125 f(0) @ 0.0")
        self.assertEqual(self.refused(within(f, *names), TooWide).most, 4)
        self.assertEqual(str(form_of(World.plain(5), within(("times", *[f] * 8), "i"))), "1 f(0)^8 @ 0.0")
        self.assertEqual(self.refused(within(("times", ("times", *[f] * 8), f), "i"), TooLarge).most, 8)
        sixty = ("times", ("plus", *[f] * 6), ("plus", *[f] * 5), ("plus", f, f))
        self.assertEqual(str(form_of(World.plain(5), within(sixty, "i"))), "60 f(0)^3 @ 0.0")
        self.assertEqual(self.refused(within(("plus", sixty, f), "i"), TooMany).most, 60)
        self.assertEqual(self.refused(("times", sixty, within(f, "i")), InvalidProgram).path, (0, 0, 0))

    def test_wrong_programs(self):
        for program in [None, True, 3, "sum(i: f(i))", ("num", 1, 0), ["num", 1, 1], ("trait", "f", ("i",)), ()]:
            self.assertEqual(self.refused(program, InvalidProgram).path, ())

    def test_waves_are_unknown(self):
        self.assertEqual(self.refused(within(("wave", "a", "i"), "i"), InvalidProgram).path, (0,))


class TestEqualForms(unittest.TestCase):
    def test_equal_exactly_if_the_numbers_are(self):
        """Forms with the same numbers for all populations of a small world with numbers from 0 to 3 are equal."""
        world = World([("a", (2,)), ("b", (1,))], [("f", 1, False, False)])
        people = list(world.all_people())
        populations = []
        for numbers in itertools.product(range(4), repeat=3):
            rows = [(("f", (person,)), number) for person, number in zip(people, numbers)]
            populations.append(Population(world, rows))
        source = random.Random(25)
        by_numbers = {}
        for _ in range(400):
            program = good_program(source, world, most_width=3)
            form = form_of(world, program)
            if form.degree > 3:
                continue
            numbers = tuple(Fraction(*form.value(population)) for population in populations)
            self.assertEqual(by_numbers.setdefault(numbers, form), form)
        texts = [str(form) for form in by_numbers.values()]
        self.assertEqual(len(texts), len(set(texts)))

    def test_programs_in_other_words(self):
        world = World([("a", (3, 2)), ("b", (2,))], TRAITS)
        pairs = [
            ("(sum(i: f(i)) * sum(i: f(i)))", "sum(k: f(k))^2"),
            ("sum(i: (f(i) + 1)^2)", "(sum(i: f(i)^2) + (2 * sum(j: f(j))) + 8)"),
            ("sum(i: sum(j: ([i=j] * g(i,j))))", "sum(i: g(i,i))"),
            ("sum(i: sum(j: [i~j:0]))", "(sum(i: [i:a])^2 + sum(i: [i:b])^2)"),
        ]
        for one, other in pairs:
            self.assertEqual(form_of(world, read_program(one)), form_of(world, read_program(other)))
        self.assertEqual(form_of(world, read_program("(sum(i: f(i)) + (-1 * sum(j: f(j))))")), Form(world))


if __name__ == "__main__":
    unittest.main()
