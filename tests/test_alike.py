"""Tests of fewtell.alike: whether two programs agree, and the populations that part them."""

import random
import unittest

from fewtell.alike import Alike, Answer, Apart, compare, parting
from fewtell.errors import FewError, HasWishes, InvalidProgram, TooLarge, TooMany, TooWide
from fewtell.forms import Form, constant, form_of
from fewtell.populations import Population
from fewtell.texts import read_program
from fewtell.webs import web_entries
from fewtell.worlds import World
from tests.by_hand import good_program, number_of, random_web

TRAITS = [
    ("f", 1, False, False), ("g", 2, False, False), ("even", 2, False, True), ("flag", 1, True, False),
    ("mark", 2, True, True), ("three", 3, False, False),
]
WORLD = World([("a", (3, 2)), ("b", (4,))], TRAITS)
OTHER = World([("a", (3, 2)), ("b", (5,))], TRAITS)
A, B = (0, 0, 0), (0, 1, 0)
WISHED = ((A,), (("w",),), (("f", (0,)),))


def form(text, world=WORLD):
    return form_of(world, read_program(text))


def asked(one, other, world=WORLD):
    return compare(world, read_program(one), read_program(other))


def with_zeros(zeros):
    """The sum over all people of the first part of x and all x - zero, where x is the number of f."""
    powers = {1: 1}
    for zero in zeros:
        more = {}
        for power, factor in powers.items():
            more[power + 1] = more.get(power + 1, 0) + factor
            more[power] = more.get(power, 0) - zero * factor
        powers = more
    return Form(WORLD, [(((A,), ((),), (("f", (0,)),) * power), (factor, 1)) for power, factor in powers.items()])


class TestCompare(unittest.TestCase):
    def test_programs_in_other_words(self):
        pairs = [
            ("1", "1"), ("(1/2 + 1/2)", "1"), ("sum(i: f(i))", "sum(j: f(j))"), ("sum(i: 1)", "10"), ("(3)^0", "1"),
            ("sum(i: f(i))^2", "sum(i: sum(j: (f(i) * f(j))))"), ("sum(i: flag(i))", "sum(i: flag(i)^3)"),
            ("sum(i: sum(j: (even(i,j) * f(j))))", "sum(i: sum(j: (even(i,j) * f(i))))"),
            ("sum(i: sum(j: ([i=j] * g(i,j))))", "sum(i: g(i,i))"), ("sum(i: sum(j: [i~j:3]))", "0"),
            ("sum(i: (f(i) + (-1 * f(i))))", "0"), ("sum(i: sum(j: ([i~j:0] * f(i))))",
                                                  "(sum(i: ([i:a] * f(i) * 6)) + sum(i: ([i:b] * f(i) * 4)))"),
            ("sum(i: sum(j: ([i~j:0] + [i~j:1])))", "(36 + 16 + 12 + 4)"),
        ]
        for one, other in pairs:
            with self.subTest(one=one, other=other):
                answer = asked(one, other)
                self.assertIs(answer.__class__, Alike)
                self.assertIs(answer.holds(), True)
                self.assertEqual(answer.one, form(one))
                self.assertEqual(answer.other, form(other))
                self.assertEqual(answer.world, WORLD)

    def test_programs_apart(self):
        pairs = [
            ("1", "2"), ("1/2", "1/3"), ("sum(i: f(i))", "0"), ("sum(i: f(i))", "sum(i: flag(i))"),
            ("sum(i: f(i))^2", "sum(i: f(i)^2)"), ("sum(i: sum(j: g(i,j)))", "sum(i: sum(j: even(i,j)))"),
            ("sum(i: f(i))", "sum(i: ([i:a] * f(i)))"),
            ("sum(i: sum(j: (g(i,j) * f(i))))", "sum(i: sum(j: (g(i,j) * f(j))))"),
            ("sum(i: sum(j: ([i~j:0] * f(i) * f(j))))", "sum(i: sum(j: ([i~j:1] * f(i) * f(j))))"),
            ("sum(i: f(i)^4)", "sum(i: f(i)^3)"),
            ("sum(i: (f(i)^4 * f(i)^4))", "sum(i: (f(i)^4 * f(i)^3))"),
        ]
        for one, other in pairs:
            with self.subTest(one=one, other=other):
                answer = asked(one, other)
                self.assertIs(answer.__class__, Apart)
                self.assertIs(answer.holds(), True)
                self.assertEqual((answer.one, answer.other), (form(one), form(other)))
                self.check_population(answer)

    def check_population(self, answer):
        world, population = answer.world, answer.population
        difference = answer.one - answer.other
        self.assertEqual(population.world, world)
        self.assertNotEqual(answer.one.value(population), answer.other.value(population))
        self.assertTrue(all(1 <= number <= 8 for _, number in population.rows()))
        entries = [entry for entry, _ in population.rows()]
        # They are the entries of a web with the fewest different ones, with its people.
        fewest = min(len(web_entries(web)) for web, _ in difference.terms())
        found = []
        for (people, _, pairs), _ in difference.terms():
            its = sorted({world.entry(name, tuple(people[at] for at in positions)) for name, positions in pairs})
            if len(its) == fewest:
                found.append(its)
        self.assertIn(entries, found)

    def test_small_worlds_have_fewer_populations(self):
        world = World.plain(1)
        self.assertTrue(asked("sum(i: f(i))^2", "sum(i: f(i)^2)", world))
        self.assertTrue(asked("sum(i: sum(j: [i=j]))", "sum(i: 1)", world))
        self.assertFalse(asked("sum(i: f(i))^2", "sum(i: f(i)^2)", World.plain(2)))

    def test_random_programs(self):
        source = random.Random(31)
        worlds = [World(parts, TRAITS) for parts in ([("a", (2,))], [("a", (2, 2))], [("a", (1, 2)), ("b", (2,))],
                                                     [("a", (10 ** 30, 5)), ("b", (3, 3, 3))])]
        kinds = {}
        for number in range(250):
            world = worlds[number % 4]
            one, other = good_program(source, world, most_width=3), good_program(source, world, most_width=3)
            answer = compare(world, one, other)
            kinds[answer.told()] = kinds.get(answer.told(), 0) + 1
            self.assertIs(answer.holds(), True)
            self.assertIs(bool(answer), answer.one == answer.other)
            if not answer:
                self.check_population(answer)
                if number % 4 < 3:
                    numbers = [number_of(world, program, answer.population) for program in (one, other)]
                    self.assertNotEqual(numbers[0], numbers[1])
        self.assertEqual(sorted(kinds), ["alike", "apart"])

    def test_by_name(self):
        one, other = read_program("1"), read_program("2")
        self.assertTrue(compare(other=one, one=one, world=WORLD))
        self.assertEqual(compare(world=WORLD, one=one, other=other).one, constant(WORLD, (1, 1)))

    def test_errors(self):
        good = read_program("sum(i: f(i))")
        wide = read_program("sum(i: sum(j: sum(k: sum(l: sum(m: 1)))))")
        large = ("power", ("power", good, 3), 3)
        many = ("times", *[("plus", good[2], good[2])] * 6)
        wrong = ("plus", ("num", 1, 1), None)
        rows = [
            (wrong, wide, InvalidProgram, "path", (1,)), (wide, wrong, TooWide, "most", 4),
            (good, wrong, InvalidProgram, "path", (1,)),
            (("sum", "i", many), None, TooMany, "most", 60), (good, wide, TooWide, "most", 4),
            (("sum", "i", ("times", *[("power", good[2], 3)] * 3)), wrong, TooLarge, "most", 8),
            (None, None, InvalidProgram, "path", ()), (large, good, TooWide, "most", 4),
            (read_program("sum(i: [i@a])"), wrong, InvalidProgram, "path", (0,)),
        ]
        for one, other, error, word, wanted in rows:
            with self.subTest(one=one, other=other), self.assertRaises(error) as caught:
                compare(WORLD, one, other)
            self.assertEqual(getattr(caught.exception, word), wanted)
            self.assertIsInstance(caught.exception, FewError)


class TestParting(unittest.TestCase):
    def test_a_form_without_webs(self):
        self.assertIsNone(parting(Form(WORLD)))
        self.assertIsNone(parting(form=form("sum(i: (f(i) + (-1 * f(i))))")))

    def test_the_empty_web(self):
        population = parting(form("(1/3 + sum(i: f(i)))"))
        self.assertEqual(population, Population(WORLD))
        self.assertEqual(parting(constant(WORLD, (-5, 1))), Population(WORLD))

    def test_several_webs(self):
        found = form("(sum(i: sum(j: (f(i) * f(j) * g(i,j)))) + sum(i: (f(i) * flag(i))))")
        population = parting(found)
        self.assertEqual(len(population), 2)
        self.assertNotEqual(found.value(population), (0, 1))

    def test_webs_of_the_same_entries(self):
        """The factors are chosen so that the least numbers give 0."""
        for text in ["sum(i: (f(i)^2 + (-1 * f(i))))", "sum(i: (f(i)^3 + (-3 * f(i)^2) + (2 * f(i))))",
                     "sum(i: (f(i)^2 * (f(i) + -1) * (f(i) + -2) * (f(i) + -3) * (f(i) + -4) * (f(i) + -5)))",
                     "sum(i: (f(i) * flag(i) * (f(i) + -1)))", "sum(i: ([i:a] * f(i) * (f(i) + -1)))"]:
            found = form(text)
            population = parting(found)
            self.assertEqual(len(population), 1 + ("flag" in text))
            self.assertNotEqual(found.value(population), (0, 1))
            self.assertTrue(all(1 <= number <= 8 for _, number in population.rows()))

    def test_seven_zeros(self):
        """All numbers from 1 to 8 but one give 0."""
        for number in range(1, 9):
            found = with_zeros([zero for zero in range(1, 9) if zero != number])
            self.assertEqual(found.degree, 8)
            self.assertEqual(parting(found).rows(), [(("f", (A,)), number)])

    def test_zeros_of_two_numbers(self):
        """f(0) * f(1) * (f(0) - f(1)) ** 2 * (f(0) + f(1) - 3) is not 0 only for numbers that differ."""
        world = World.plain(10 ** 30)
        pairs = "f(i) * f(j) * (f(i) + (-1 * f(j)))^2 * (f(i) + f(j) + -3)"
        found = form_of(world, read_program(f"sum(i: sum(j: ({pairs} * (1 + (-1 * [i=j])))))"))
        population = parting(found)
        self.assertEqual(len(population), 2)
        self.assertNotEqual(found.value(population), (0, 1))

    def test_eight_entries(self):
        people = tuple((0, number) for number in range(4))
        world = World([("all", (9,))], [("f", 1, False, False), ("g", 1, False, False)])
        pairs = tuple(sorted((name, (at,)) for name in "fg" for at in range(4)))
        population = parting(Form(world, [((people, ((),) * 4, pairs), (-1, 7))]))
        self.assertEqual(len(population), 8)

    def test_random_forms(self):
        source = random.Random(32)
        for _ in range(150):
            rows = []
            while len(rows) < source.randint(1, 5):
                web = random_web(source, WORLD, ())
                if len(web[2]) <= 8:
                    rows.append((web, source.choice([(1, 1), (-1, 1), (2, 3), (-1, 2)])))
            found = Form(WORLD, rows)
            population = parting(found)
            if not found:
                self.assertIsNone(population)
                continue
            self.assertNotEqual(found.value(population), (0, 1))
            self.assertEqual(len(population), min(len(web_entries(web)) for web, _ in found.terms()))
            self.assertTrue(all(1 <= number <= 8 for _, number in population.rows()))

    def test_greater_degrees(self):
        people = ((0, 0, 0), (0, 0, 1), (0, 1, 0), (0, 1, 1))
        pairs = [("three", (one, two, three)) for one in range(4) for two in range(4) for three in range(4)]
        for many in (9, 20, 30, 31, 64):
            web = (people, ((),) * 4, tuple(sorted(pairs[:many - 4] + [("f", (at,)) for at in range(4)])))
            found = Form(WORLD, [(web, (1, 1))])
            self.assertEqual(found.degree, many)
            if many > 30:
                with self.assertRaises(TooMany) as caught:
                    parting(found)
                self.assertEqual(caught.exception.most, 30)
            else:
                self.assertNotEqual(found.value(parting(found)), (0, 1))
        # No number from 1 to 8 is left: None may be returned.
        self.assertIsNone(parting(with_zeros(range(1, 9))))

    def test_wishes(self):
        for rows in ([(WISHED, (1, 1))], [(WISHED, (1, 1)), (((A,), ((),), (("f", (0,)),)), (1, 1))]):
            with self.assertRaises(HasWishes):
                parting(Form(WORLD, rows))


class TestAnswers(unittest.TestCase):
    def setUp(self):
        self.one, self.other = form("sum(i: f(i))"), form("sum(i: f(i)^2)")
        self.population = Population(WORLD, [(("f", (A,)), 2)])
        self.level = Population(WORLD, [(("f", (A,)), 1)])

    def test_answer(self):
        answer = Answer(WORLD)
        self.assertIs(answer.world, WORLD)
        self.assertIs(answer.is_yes, False)
        self.assertIs(bool(answer), False)
        self.assertIs(answer.holds(), False)
        self.assertEqual(answer.told(), "unknown")
        self.assertEqual(repr(answer), "Answer(unknown)")
        self.assertEqual(Answer(world=WORLD).world, WORLD)

    def test_alike(self):
        answer = Alike(other=self.one, one=self.one, world=WORLD)
        self.assertIsInstance(answer, Answer)
        self.assertEqual((answer.world, answer.one, answer.other), (WORLD, self.one, self.one))
        self.assertIs(answer.is_yes, True)
        self.assertIs(bool(answer), True)
        self.assertEqual(answer.told(), "alike")
        self.assertEqual(repr(answer), "Answer(alike)")
        self.assertIs(answer.holds(), True)

    def test_apart(self):
        answer = Apart(population=self.population, other=self.other, one=self.one, world=WORLD)
        self.assertIsInstance(answer, Answer)
        self.assertEqual((answer.world, answer.one, answer.other), (WORLD, self.one, self.other))
        self.assertEqual(answer.population, self.population)
        self.assertIs(answer.is_yes, False)
        self.assertIs(bool(answer), False)
        self.assertEqual(answer.told(), "apart")
        self.assertEqual(repr(answer), "Answer(apart)")
        self.assertIs(answer.holds(), True)
        self.assertFalse(issubclass(Apart, Alike))

    def test_the_interface_stands_in_each_class(self):
        for kind, names in [(Answer, ["world", "is_yes", "told", "holds"]), (Alike, ["one", "other", "is_yes", "told"]),
                            (Apart, ["one", "other", "population", "told", "holds"])]:
            for name in names:
                self.assertIn(name, kind.__dict__)

    def test_wrong_answers(self):
        self.assertIs(Alike(WORLD, self.one, self.other).holds(), False)
        self.assertIs(bool(Alike(WORLD, self.one, self.other)), True)
        self.assertIs(Apart(WORLD, self.one, self.other, self.level).holds(), False)
        self.assertIs(Apart(WORLD, self.one, self.one, self.population).holds(), False)
        self.assertIs(Apart(WORLD, self.one, self.other, Population(WORLD)).holds(), False)

    def test_other_worlds(self):
        one, other = form("sum(i: f(i))", OTHER), form("sum(i: f(i)^2)", OTHER)
        population = Population(OTHER, [(("f", (A,)), 2)])
        self.assertIs(Alike(WORLD, one, one).holds(), False)
        self.assertIs(Alike(OTHER, self.one, self.one).holds(), False)
        self.assertIs(Alike(WORLD, self.one, one).holds(), False)
        self.assertIs(Alike(WORLD, one, self.one).holds(), False)
        self.assertIs(Alike(WORLD, Form(OTHER), Form(WORLD)).holds(), False)
        for row in [(one, self.other, self.population), (self.one, other, self.population),
                    (self.one, self.other, population), (one, other, population), (one, other, self.population)]:
            self.assertIs(Apart(WORLD, *row).holds(), False)
        self.assertIs(Apart(OTHER, one, other, population).holds(), True)
        equal = World([("a", (3, 2)), ("b", (4,))], TRAITS)
        self.assertIs(Apart(equal, self.one, self.other, self.population).holds(), True)
        self.assertIs(Alike(equal, self.one, self.one).holds(), True)

    def test_wishes(self):
        wished = Form(WORLD, [(WISHED, (1, 1))])
        self.assertIs(Alike(WORLD, wished, wished).holds(), False)
        self.assertIs(Apart(WORLD, wished, self.other, self.population).holds(), False)
        self.assertIs(Apart(WORLD, self.one, wished, self.population).holds(), False)


if __name__ == "__main__":
    unittest.main()
