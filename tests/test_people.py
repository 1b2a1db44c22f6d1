"""Tests of fewtell.worlds: people, their meeting, and entries."""

import inspect
import itertools
import unittest

from fewtell.errors import InvalidEntry, InvalidPerson, UnknownName
from fewtell.worlds import World

MOST = 10 ** 30
PARTS = [("north", (3, 2)), ("south", (4,)), ("sea", (2, 1, 5))]
TRAITS = [
    ("f", 1, False, False), ("g", 2, False, False), ("h", 3, False, False), ("one", 1, False, True),
    ("two", 2, False, True), ("three", 3, True, True),
]
WORLD = World(PARTS, TRAITS)
PEOPLE = [
    (0, 0, 0), (0, 0, 1), (0, 1, 0), (0, 1, 1), (0, 2, 0), (0, 2, 1), (1, 0), (1, 1), (1, 2), (1, 3),
    (2, 0, 0, 0), (2, 0, 0, 1), (2, 0, 0, 2), (2, 0, 0, 3), (2, 0, 0, 4),
    (2, 1, 0, 0), (2, 1, 0, 1), (2, 1, 0, 2), (2, 1, 0, 3), (2, 1, 0, 4),
]
NO_PEOPLE = [
    None, True, False, 0, 1, -1, "", "0.0.0", "000", (), [], (0,), (1,), (2,), (0, 0), (1, 0, 0), (2, 0, 0),
    (0, 0, 0, 0), (2, 0, 0, 0, 0), [0, 0, 0], [1, 0], (0, 3, 0), (0, 0, 2), (0, 3, 2), (1, 4), (2, 2, 0, 0),
    (2, 0, 1, 0), (2, 0, 0, 5), (3, 0), (3, 0, 0), (-1, 0), (-1, 0, 0, 0), (-2, 0), (-3, 0, 0), (0, -1, 0),
    (0, 0, -1), (1, -1), (2, 0, -1, 0), (False, 0, 0), (True, 0), (0, False, 0), (0, 0, True), (0, True, 1),
    (1, True), (1, False), (2, 0, False, 0), (None, 0, 0), (0, None, 0), ("0", 0, 0), (0, "0", 0), (0, 0, "1"),
    ((0,), 0, 0), (0, (0,), 0), (0, 0, [0]), ([0], 0, 0), ((0, 0, 0),), [(0, 0, 0)], ("north", 0, 0),
    (MOST, 0), (1, MOST), (1, -MOST),
]


class TestIsPerson(unittest.TestCase):
    def test_people(self):
        for value in PEOPLE:
            with self.subTest(value=value):
                self.assertIs(WORLD.is_person(value), True)

    def test_other_values(self):
        for value in NO_PEOPLE:
            with self.subTest(value=value):
                self.assertIs(WORLD.is_person(value), False)

    def test_all_small_tuples(self):
        for many in range(5):
            for value in itertools.product(range(-1, 6), repeat=many):
                if WORLD.is_person(value) != (value in PEOPLE):
                    self.fail(value)

    def test_greatest_sizes(self):
        world = World.plain(MOST, 1, MOST)
        self.assertIs(world.is_person((0, MOST - 1, 0, MOST - 1)), True)
        self.assertIs(world.is_person((0, MOST, 0, 0)), False)
        self.assertIs(world.is_person((0, 0, 1, 0)), False)
        self.assertIs(world.is_person((0, 0, 0, MOST)), False)

    def test_by_name(self):
        self.assertIs(WORLD.is_person(value=(1, 3)), True)


class TestMeet(unittest.TestCase):
    def test_by_hand(self):
        rows = [
            ((0, 0, 0), (0, 0, 0), 2), ((0, 0, 0), (0, 0, 1), 1), ((0, 0, 0), (0, 1, 0), 0), ((0, 2, 1), (0, 1, 1), 0),
            ((1, 2), (1, 2), 1), ((1, 2), (1, 3), 0),
            ((2, 1, 0, 4), (2, 1, 0, 4), 3), ((2, 1, 0, 4), (2, 1, 0, 3), 2), ((2, 1, 0, 4), (2, 0, 0, 4), 0),
            ((0, 0, 0), (1, 0), None), ((0, 0, 0), (2, 0, 0, 0), None), ((1, 1), (2, 1, 0, 1), None),
        ]
        for one, other, level in rows:
            with self.subTest(one=one, other=other):
                self.assertEqual(WORLD.meet(one, other), level)
                self.assertEqual(WORLD.meet(other, one), level)

    def test_every_level(self):
        world = World.plain(3, 3, 3)
        rows = [((0, 1, 1, 1), 3), ((0, 1, 1, 2), 2), ((0, 1, 2, 1), 1), ((0, 2, 1, 1), 0), ((0, 1, 2, 2), 1)]
        for other, level in rows:
            with self.subTest(other=other):
                self.assertEqual(world.meet((0, 1, 1, 1), other), level)

    def test_parts_of_the_same_sizes_do_not_meet(self):
        world = World([("a", (2, 2)), ("b", (2, 2))], TRAITS)
        self.assertIsNone(world.meet((0, 1, 1), (1, 1, 1)))
        self.assertEqual(world.meet((1, 1, 1), (1, 1, 1)), 2)

    def test_by_name(self):
        self.assertEqual(WORLD.meet(other=(0, 0, 1), one=(0, 0, 0)), 1)

    def test_values_that_are_no_people(self):
        for value in NO_PEOPLE:
            for one, other in [(value, (1, 0)), ((1, 0), value), (value, value)]:
                with self.subTest(one=one, other=other), self.assertRaises(InvalidPerson) as caught:
                    WORLD.meet(one, other)
                self.assertEqual(repr(caught.exception.given), repr(value))
                self.assertEqual(caught.exception.code, "InvalidPerson")

    def test_the_first_value_counts(self):
        for one, other in [((1, 4), (0, 0)), (None, [1, 0]), ([1, 0], None), ((0, True, 0), "x")]:
            with self.subTest(one=one, other=other), self.assertRaises(InvalidPerson) as caught:
                WORLD.meet(one, other)
            self.assertEqual(repr(caught.exception.given), repr(one))


class TestAllPeople(unittest.TestCase):
    def test_parts_of_different_depths(self):
        self.assertEqual(list(WORLD.all_people()), PEOPLE)

    def test_one_part(self):
        self.assertEqual(list(World.plain(1).all_people()), [(0, 0)])
        self.assertEqual(list(World.plain(3).all_people()), [(0, 0), (0, 1), (0, 2)])
        self.assertEqual(list(World.plain(2, 2).all_people()), [(0, 0, 0), (0, 0, 1), (0, 1, 0), (0, 1, 1)])
        self.assertEqual(list(World.plain(1, 1, 1).all_people()), [(0, 0, 0, 0)])

    def test_ascending_people_of_the_world(self):
        world = World([("a", (12, 11)), ("b", (101,)), ("c", (3, 4, 5))], TRAITS)
        people = list(world.all_people())
        self.assertEqual(people, sorted(people))
        self.assertEqual(len(people), len(set(people)))
        self.assertEqual(len(people), sum(world.size(part) for part in range(3)))
        self.assertTrue(all(world.is_person(person) for person in people))

    def test_a_generator_of_many_people(self):
        people = World.plain(MOST, MOST).all_people()
        self.assertTrue(inspect.isgenerator(people))
        self.assertEqual(list(itertools.islice(people, 3)), [(0, 0, 0), (0, 0, 1), (0, 0, 2)])

    def test_each_call_begins_anew(self):
        one, other = WORLD.all_people(), WORLD.all_people()
        self.assertEqual([next(one), next(one), next(other)], [(0, 0, 0), (0, 0, 1), (0, 0, 0)])


class TestEntry(unittest.TestCase):
    def refused(self, trait, people):
        with self.subTest(trait=trait, people=people), self.assertRaises(InvalidEntry) as caught:
            WORLD.entry(trait, people)
        self.assertEqual(repr(caught.exception.given), repr(people))
        self.assertEqual(caught.exception.code, "InvalidEntry")

    def test_traits_that_are_not_even(self):
        rows = [
            ("f", ((1, 3),)), ("g", ((1, 3), (1, 0))), ("g", ((1, 0), (1, 3))), ("g", ((2, 0, 0, 0), (0, 0, 0))),
            ("h", ((1, 3), (1, 0), (1, 2))), ("h", ((2, 1, 0, 4), (1, 0), (0, 2, 1))),
        ]
        for trait, people in rows:
            with self.subTest(trait=trait, people=people):
                self.assertEqual(WORLD.entry(trait, people), (trait, people))

    def test_even_traits(self):
        self.assertEqual(WORLD.entry("one", ((1, 3),)), ("one", ((1, 3),)))
        self.assertEqual(WORLD.entry("two", ((1, 3), (1, 0))), ("two", ((1, 0), (1, 3))))
        self.assertEqual(WORLD.entry("two", ((1, 0), (1, 3))), ("two", ((1, 0), (1, 3))))
        self.assertEqual(WORLD.entry("two", ((2, 0, 0, 0), (0, 2, 1))), ("two", ((0, 2, 1), (2, 0, 0, 0))))
        people = ((0, 2, 1), (1, 0), (1, 2))
        for given in itertools.permutations(people):
            self.assertEqual(WORLD.entry("three", given), ("three", people))

    def test_order_of_numbers_and_not_of_digits(self):
        world = World([("a", (20,))], TRAITS)
        self.assertEqual(world.entry("two", ((0, 10), (0, 9))), ("two", ((0, 9), (0, 10))))

    def test_repeated_people(self):
        self.assertEqual(WORLD.entry("g", ((1, 1), (1, 1))), ("g", ((1, 1), (1, 1))))
        self.assertEqual(WORLD.entry("h", ((1, 1), (1, 0), (1, 1))), ("h", ((1, 1), (1, 0), (1, 1))))
        self.assertEqual(WORLD.entry("two", ((1, 1), (1, 1))), ("two", ((1, 1), (1, 1))))
        self.assertEqual(WORLD.entry("three", ((1, 1), (1, 0), (1, 1))), ("three", ((1, 0), (1, 1), (1, 1))))

    def test_kinds_and_names(self):
        entry = WORLD.entry(people=((1, 3), (1, 0)), trait="two")
        self.assertEqual(entry, ("two", ((1, 0), (1, 3))))
        self.assertIsInstance(entry, tuple)
        self.assertIsInstance(entry[1], tuple)

    def test_an_entry_is_standard_again(self):
        entry = WORLD.entry("three", ((1, 3), (0, 0, 0), (1, 0)))
        self.assertEqual(WORLD.entry(*entry), entry)

    def test_unknown_traits(self):
        for trait in ["north", "", "F", "ff", None, True, 0, 1, (), [], ("f",), ["f"]]:
            for people in [((1, 0),), None, [(1, 0)], ((9, 9),)]:
                with self.subTest(trait=trait, people=people), self.assertRaises(UnknownName) as caught:
                    WORLD.entry(trait, people)
                self.assertEqual(repr(caught.exception.name), repr(trait))

    def test_wrong_numbers_of_people(self):
        for trait, ends in [("f", 1), ("g", 2), ("h", 3), ("one", 1), ("two", 2), ("three", 3)]:
            for many in range(6):
                people = tuple(PEOPLE[:many])
                if many == ends:
                    self.assertEqual(WORLD.entry(trait, people), (trait, people))
                else:
                    self.refused(trait, people)

    def test_values_that_are_no_tuple_of_people(self):
        for value in [None, True, 0, 1, "", "a", (), [], (0,), (1, 0), [(1, 0)], [(1, 0), (1, 1)], [1, 0], ("f",)]:
            for trait in ("f", "g", "one", "two"):
                self.refused(trait, value)

    def test_values_that_are_no_people(self):
        for value in NO_PEOPLE:
            self.refused("f", (value,))
            self.refused("one", (value,))
            self.refused("g", ((1, 0), value))
            self.refused("two", (value, (1, 0)))
            self.refused("three", ((1, 0), (1, 1), value))

    def test_people_are_not_changed(self):
        people = [(1, 3), (1, 0)]
        self.refused("two", people)
        self.assertEqual(people, [(1, 3), (1, 0)])


if __name__ == "__main__":
    unittest.main()
