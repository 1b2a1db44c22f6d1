"""Tests of fewtell.populations."""

import itertools
import unittest

from fewtell.errors import InvalidEntry, InvalidNumber, InvalidPerson, InvalidRow, TooMany, UnknownName
from fewtell.populations import Population
from fewtell.worlds import World

MOST = 10 ** 6
PARTS = [("north", (3, 2)), ("south", (4,)), ("sea", (2, 2, 5))]
TRAITS = [
    ("f", 1, False, False), ("g", 2, False, False), ("even", 2, False, True), ("flag", 1, True, False),
    ("three", 3, False, True), ("mark", 2, True, True),
]
WORLD = World(PARTS, TRAITS)
GREAT = World.plain(10 ** 30)
A, B, C = (0, 0, 1), (0, 2, 0), (1, 3)
PLAIN_VALUES = [None, True, False, 0, 1, -2, "", "f", "fg", (), [], ((),), [[]], (None, None)]
NO_ENTRIES = [
    *PLAIN_VALUES, ("f",), ("f", A), ("f", [A]), ["f", (A,)], ("f", (A,), 1), ("f", (A, B)), ("f", ()), ("g", (A,)),
    ("g", (A, B, C)), ("k", (A,)), ("", (A,)), (None, (A,)), (["f"], (A,)), (("f",), (A,)), ("f", ((0, 0, 2),)),
    ("f", ((0, 0),)), ("f", ((0,),)), ("f", ([0, 0, 1],)), ("f", ((0, 0, True),)), ("f", ((False, 0, 1),)),
    ("three", (A, B)), ("even", (A, (1, 4))), ("north", (A,)), ("f", None), (True, (A,)), ("f", "a"),
]
NO_NUMBERS = [None, True, False, "", "1", "a", (), [], (1,), [1], (1, 1), MOST + 1, -MOST - 1, 10 ** 31 - 1, -10 ** 30]


def ones(many, start=0):
    return [(("f", ((0, number),)), number + 1) for number in range(start, start + many)]


class TestRows(unittest.TestCase):
    def refused(self, rows, index):
        with self.subTest(rows=rows), self.assertRaises(InvalidRow) as caught:
            Population(WORLD, rows)
        self.assertEqual(caught.exception.index, index)
        self.assertEqual(caught.exception.code, "InvalidRow")

    def test_without_rows(self):
        for population in [Population(WORLD), Population(WORLD, []), Population(WORLD, ()), Population(world=WORLD)]:
            self.assertEqual(population.rows(), [])
            self.assertEqual(population.people(), [])
            self.assertEqual(len(population), 0)
            self.assertEqual(population.number("f", (A,)), 0)

    def test_entries_are_standard_and_ascending(self):
        rows = [
            (("three", (C, A, B)), 5), (("g", (B, A)), -2), (("f", (C,)), MOST), (("even", (C, A)), 7),
            (("g", (A, B)), 3), (("f", (A,)), -MOST), (("mark", (B, A)), 1), (("flag", (A,)), 1),
        ]
        wanted = [
            (("even", (A, C)), 7), (("f", (A,)), -MOST), (("f", (C,)), MOST), (("flag", (A,)), 1), (("g", (A, B)), 3),
            (("g", (B, A)), -2), (("mark", (A, B)), 1), (("three", (A, B, C)), 5),
        ]
        for order in (rows, rows[::-1], rows[3:] + rows[:3], tuple(rows)):
            population = Population(WORLD, order)
            self.assertEqual(population.rows(), wanted)
            self.assertIsInstance(population.rows(), list)
            self.assertTrue(all(isinstance(row, tuple) for row in population.rows()))

    def test_repeated_people(self):
        rows = [(("even", (A, A)), 1), (("g", (A, A)), 2), (("three", (B, A, B)), 3)]
        wanted = [(("even", (A, A)), 1), (("g", (A, A)), 2), (("three", (A, B, B)), 3)]
        self.assertEqual(Population(WORLD, rows).rows(), wanted)

    def test_zeros_are_left_out(self):
        rows = [(("f", (A,)), 0), (("f", (B,)), 2), (("even", (B, A)), 0), (("flag", (A,)), 0)]
        population = Population(WORLD, rows)
        self.assertEqual(population.rows(), [(("f", (B,)), 2)])
        self.assertEqual(population, Population(WORLD, rows[1:2]))
        self.assertEqual(population.number("f", (A,)), 0)

    def test_greatest_numbers(self):
        for number in (MOST, -MOST, 1, -1):
            self.assertEqual(Population(WORLD, [(("f", (A,)), number)]).number("f", (A,)), number)
        self.refused([(("f", (A,)), MOST + 1)], 0)
        self.refused([(("f", (A,)), -MOST - 1)], 0)

    def test_flags(self):
        for trait, people in [("flag", (A,)), ("mark", (A, B))]:
            for number in (0, 1):
                self.assertEqual(Population(WORLD, [((trait, people), number)]).number(trait, people), number)
            for number in (2, -1, MOST, True, False, None, "1"):
                self.refused([((trait, people), number)], 0)

    def test_wrong_entries_at_every_place(self):
        good = [(("f", (A,)), 1), (("f", (B,)), 0)]
        for entry in NO_ENTRIES:
            for number in (1, 0, "x"):
                self.refused([(entry, number)], 0)
                self.refused([*good, (entry, number)], 2)
            self.refused([(entry, 1), *good], 0)
            self.refused([good[0], (entry, 1), good[1]], 1)

    def test_wrong_numbers_at_every_place(self):
        good = [(("f", (A,)), 1), (("f", (B,)), 0)]
        for number in NO_NUMBERS:
            self.refused([(("f", (C,)), number)], 0)
            self.refused([*good, (("even", (C, A)), number)], 2)
            self.refused([good[0], (("f", (C,)), number), good[1]], 1)

    def test_values_that_are_no_pair(self):
        entry = ("f", (A,))
        for row in [*PLAIN_VALUES, entry, (entry,), [entry, 1], (entry, 1, 1), (1, entry), "f1"]:
            self.refused([row], 0)
            self.refused([(("f", (B,)), 1), row], 1)

    def test_values_that_are_no_list(self):
        for rows in [None, True, False, 0, 5, "", "a"]:
            self.refused(rows, 0)

    def test_an_entry_that_stands_twice(self):
        pairs = [("f", (A,), (A,)), ("even", (A, C), (C, A)), ("even", (C, A), (A, C)), ("g", (A, B), (A, B)),
                 ("mark", (A, B), (B, A)), ("flag", (A,), (A,))]
        for trait, one, other in pairs:
            for number, other_number in itertools.product((0, 1), repeat=2):
                self.refused([((trait, one), number), ((trait, other), other_number)], 1)
                self.refused([((trait, one), number), (("f", (B,)), 1), ((trait, other), other_number)], 2)
        for one, other in itertools.permutations(itertools.permutations((A, B, C)), 2):
            self.refused([(("three", one), 1), (("three", other), 0)], 1)

    def test_entries_that_differ(self):
        rows = [(("g", (A, B)), 1), (("g", (B, A)), 2), (("even", (A, B)), 3), (("three", (A, A, B)), 4),
                (("three", (A, B, B)), 5)]
        self.assertEqual(len(Population(WORLD, rows)), 5)

    def test_the_first_wrong_row_counts(self):
        good, wrong = (("f", (A,)), 1), (("f", (A,)), None)
        self.refused([good, good, wrong], 1)
        self.refused([good, wrong, good], 1)
        self.refused([wrong, wrong], 0)
        self.refused([(("k", (A,)), 1), wrong], 0)

    def test_thirty_numbers(self):
        self.assertEqual(Population.MOST, 30)
        self.assertEqual(len(Population(GREAT, ones(30))), 30)
        self.assertEqual(len(Population(GREAT, ones(30) + [(("f", ((0, 77),)), 0)])), 30)
        for many in (31, 32, 200):
            with self.assertRaises(TooMany) as caught:
                Population(GREAT, ones(many))
            self.assertEqual(caught.exception.most, 30)

    def test_wrong_rows_come_before_too_many(self):
        for row in [(("f", ((0, 3),)), 1), None, (("f", ((0, 99),)), MOST + 1)]:
            with self.assertRaises(InvalidRow) as caught:
                Population(GREAT, [*ones(35), row])
            self.assertEqual(caught.exception.index, 35)

    def test_great_indexes(self):
        person = (0, 10 ** 30 - 1)
        self.assertEqual(Population(GREAT, [(("f", (person,)), 3)]).people(), [person])
        with self.assertRaises(InvalidRow):
            Population(GREAT, [(("f", ((0, 10 ** 30),)), 3)])

    def test_lists_may_be_changed_behind_it(self):
        rows = [(("f", (A,)), 1), (("f", (B,)), 2)]
        population = Population(WORLD, rows)
        self.assertEqual(rows, [(("f", (A,)), 1), (("f", (B,)), 2)])
        rows.append(None)
        rows[0] = "x"
        population.rows().clear()
        population.people().append("x")
        self.assertEqual(population.rows(), [(("f", (A,)), 1), (("f", (B,)), 2)])
        self.assertEqual(population.people(), [A, B])
        self.assertIsNot(population.rows(), population.rows())


class TestNumber(unittest.TestCase):
    def setUp(self):
        rows = [(("f", (A,)), 4), (("even", (A, C)), 5), (("g", (A, B)), -6), (("flag", (C,)), 1)]
        self.population = Population(WORLD, rows)

    def test_number(self):
        rows = [
            ("f", (A,), 4), ("f", (B,), 0), ("even", (A, C), 5), ("even", (C, A), 5), ("g", (A, B), -6),
            ("g", (B, A), 0), ("flag", (C,), 1), ("flag", (A,), 0), ("three", (A, B, C), 0),
        ]
        for trait, people, number in rows:
            with self.subTest(trait=trait, people=people):
                self.assertEqual(self.population.number(trait, people), number)
                self.assertEqual(self.population.number(people=people, trait=trait), number)

    def errors_of(self, call):
        for trait in ["north", "", None, True, 3, ["f"], ("f",)]:
            with self.subTest(trait=trait), self.assertRaises(UnknownName) as caught:
                call(trait, None)
            self.assertEqual(repr(caught.exception.name), repr(trait))
        for people in [None, (), [A], (A, B), A, "a", ((0, 0, 2),), ((0, 0, True),), ([0, 0, 1],)]:
            with self.subTest(people=people), self.assertRaises(InvalidEntry) as caught:
                call("f", people)
            self.assertEqual(repr(caught.exception.given), repr(people))

    def test_errors_of_number(self):
        self.errors_of(self.population.number)

    def test_errors_of_with_number(self):
        for value in (1, None, MOST + 1):
            self.errors_of(lambda trait, people: self.population.with_number(trait, people, value))

    def test_with_number(self):
        more = self.population.with_number("f", (B,), 9)
        self.assertEqual((more.number("f", (B,)), len(more)), (9, 5))
        another = self.population.with_number("even", (C, A), -8)
        self.assertEqual((another.number("even", (A, C)), len(another)), (-8, 4))
        less = self.population.with_number("even", (C, A), 0)
        self.assertEqual((less.number("even", (A, C)), len(less)), (0, 3))
        same = self.population.with_number("three", (C, A, B), 0)
        self.assertEqual(same, self.population)
        self.assertEqual(self.population.with_number(value=4, people=(A,), trait="f"), self.population)
        self.assertEqual(len(self.population), 4)
        self.assertEqual(self.population.number("even", (C, A)), 5)
        self.assertEqual(more.world, WORLD)

    def test_wrong_numbers(self):
        for value in NO_NUMBERS:
            with self.subTest(value=value), self.assertRaises(InvalidNumber) as caught:
                self.population.with_number("f", (B,), value)
            self.assertEqual(repr(caught.exception.given), repr(value))
        for value in (2, -1, True, False):
            with self.assertRaises(InvalidNumber):
                self.population.with_number("flag", (A,), value)
        self.assertEqual(self.population.with_number("flag", (A,), 1).number("flag", (A,)), 1)
        self.assertEqual(self.population.with_number("flag", (C,), 0).number("flag", (C,)), 0)

    def test_too_many(self):
        full = Population(GREAT, ones(30))
        with self.assertRaises(TooMany) as caught:
            full.with_number("f", ((0, 30),), 1)
        self.assertEqual(caught.exception.most, 30)
        with self.assertRaises(InvalidNumber):
            full.with_number("f", ((0, 30),), MOST + 1)
        self.assertEqual(full.with_number("f", ((0, 30),), 0), full)
        self.assertEqual(full.with_number("f", ((0, 29),), 7).number("f", ((0, 29),)), 7)
        fewer = full.with_number("f", ((0, 29),), 0)
        self.assertEqual(len(fewer), 29)
        self.assertEqual(len(fewer.with_number("f", ((0, 31),), 1)), 30)

    def test_people(self):
        self.assertEqual(self.population.people(), [A, B, C])
        rows = [(("three", (C, C, A)), 1), (("f", (B,)), 0), (("g", ((2, 1, 1, 4), A)), 3)]
        self.assertEqual(Population(WORLD, rows).people(), [A, C, (2, 1, 1, 4)])


class TestMoved(unittest.TestCase):
    def test_people_of_a_node(self):
        population = Population(WORLD, [(("f", (A,)), 4), (("g", (B, A)), 5), (("even", (A, C)), 6)])
        moved = population.moved((0, 0, 0), (0, 0, 1))
        wanted = [(("f", ((0, 0, 0),)), 4), (("g", (B, (0, 0, 0))), 5), (("even", (C, (0, 0, 0))), 6)]
        self.assertEqual(moved, Population(WORLD, wanted))
        self.assertEqual(population.number("f", (A,)), 4)

    def test_nodes_with_all_that_is_below_them(self):
        one, other, third, fourth = (2, 0, 0, 3), (2, 1, 0, 3), (2, 1, 1, 4), (2, 0, 1, 4)
        population = Population(WORLD, [(("g", (one, third)), 4), (("f", (other,)), 2), (("f", (C,)), 1)])
        moved = population.moved((2, 0), (2, 1))
        self.assertEqual(moved, Population(WORLD, [(("g", (other, fourth)), 4), (("f", (one,)), 2), (("f", (C,)), 1)]))
        inner = population.moved((2, 0, 0), (2, 0, 1))
        self.assertEqual(inner.number("g", ((2, 0, 1, 3), third)), 4)
        self.assertEqual(inner.number("f", (other,)), 2)

    def test_even_entries_are_standard_again(self):
        population = Population(WORLD, [(("even", ((1, 0), (1, 2))), 3)])
        self.assertEqual(population.moved((1, 0), (1, 3)).rows(), [(("even", ((1, 2), (1, 3))), 3)])

    def test_both_in_one_entry(self):
        population = Population(WORLD, [(("g", ((1, 0), (1, 2))), 3), (("even", ((1, 0), (1, 2))), 4)])
        moved = population.moved((1, 2), (1, 0))
        self.assertEqual(moved.rows(), [(("even", ((1, 0), (1, 2))), 4), (("g", ((1, 2), (1, 0))), 3)])

    def test_twice_is_as_before_and_the_same_node_changes_nothing(self):
        population = Population(WORLD, [(("f", (A,)), 4), (("g", (B, A)), 5), (("even", (A, C)), 6)])
        for one, other in [((0, 0), (0, 2)), ((0, 0, 0), (0, 0, 1)), ((1, 3), (1, 0)), ((2, 0, 1), (2, 0, 0))]:
            moved = population.moved(other=other, one=one)
            self.assertEqual(moved, population.moved(other, one))
            self.assertEqual(moved.moved(one, other), population)
            self.assertEqual(population.moved(one, one), population)
        self.assertNotEqual(population.moved((0, 0), (0, 2)), population)

    def refused(self, one, other, given):
        population = Population(WORLD, [(("f", (A,)), 4)])
        with self.subTest(one=one, other=other), self.assertRaises(InvalidPerson) as caught:
            population.moved(one, other)
        self.assertEqual(repr(caught.exception.given), repr(given))

    def test_values_that_are_no_nodes(self):
        values = [
            *PLAIN_VALUES, (3,), (-1,), (True,), (False, 0), (0, 3), (0, -1), (0, 0, 2), (0, 0, True), (0, 0, 0, 0),
            (1, 4), (1, 0, 0), [0, 0], (2, 2), (2, 0, 2), (2, 0, 0, 5), (0, "0"), ((0, 0),), (0, None),
        ]
        for value in values:
            self.refused(value, (0, 0), value)
            self.refused((0, 0), value, value)
            self.refused(value, "x", value)
            self.refused(value, value, value)

    def test_nodes_that_are_not_children_of_the_same_node(self):
        pairs = [
            ((0, 0), (1, 0)), ((0, 0, 0), (0, 1, 0)), ((0, 0), (0, 0, 0)), ((0, 0, 0), (0, 0)), ((2, 0, 0), (2, 1, 0)),
            ((2, 0, 0, 1), (2, 0, 1, 1)), ((0,), (1,)), ((0,), (0,)), ((0,), (0, 0)), ((0, 0), (0,)), ((1, 0), (0,)),
        ]
        for one, other in pairs:
            self.refused(one, other, other)

    def test_levels_that_have_one_child(self):
        self.refused((1, 0), (0,), (0,))
        population = Population(World.plain(1, 2), [(("f", ((0, 0, 1),)), 2)])
        self.assertEqual(population.moved((0, 0), (0, 0)), population)


class TestPopulation(unittest.TestCase):
    def test_world(self):
        self.assertIs(Population(WORLD).world, WORLD)
        with self.assertRaises(AttributeError):
            Population(WORLD).world = GREAT

    def test_equality(self):
        one = Population(WORLD, [(("even", (A, B)), 1), (("f", (C,)), 2), (("f", (A,)), 0)])
        other = Population(World(PARTS, TRAITS), [(("f", (C,)), 2), (("even", (B, A)), 1)])
        self.assertTrue(one == other)
        self.assertFalse(one != other)
        self.assertTrue(one == one)
        others = [
            Population(WORLD), Population(WORLD, [(("even", (A, B)), 1)]),
            Population(WORLD, [(("even", (A, B)), 1), (("f", (C,)), 3)]),
            Population(WORLD, [(("g", (A, B)), 1), (("f", (C,)), 2)]),
            Population(World(PARTS, TRAITS[:3]), [(("f", (C,)), 2), (("even", (B, A)), 1)]),
        ]
        for unequal in others:
            self.assertFalse(one == unequal)
            self.assertTrue(one != unequal)
        for value in [*PLAIN_VALUES, one.rows(), WORLD, repr(one)]:
            self.assertFalse(one == value)
            self.assertFalse(value == one)
        self.assertFalse(Population(WORLD) == Population(GREAT))

    def test_len_and_repr(self):
        for many in (0, 1, 2, 30):
            population = Population(GREAT, ones(many))
            self.assertEqual(len(population), many)
            self.assertEqual(repr(population), f"Population({many} numbers)")


if __name__ == "__main__":
    unittest.main()
