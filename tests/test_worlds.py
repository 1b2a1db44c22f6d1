"""Tests of fewtell.worlds: names, and worlds with their parts and traits."""

import unittest

from fewtell.errors import FewError, InvalidPart, InvalidTrait, Missing, UnknownName
from fewtell.worlds import World, is_name

MOST = 10 ** 30
PARTS = [("north", (3, 2)), ("south", (4,)), ("sea", (2, 1, 5))]
TRAITS = [("f", 1, False, False), ("g", 2, False, True), ("h", 3, True, False)]
PLAIN_VALUES = [None, True, False, 0, 1, -2, 10 ** 31 - 1, "", "a", "abcd", (), [], ((),), [[]], (None, None)]


class TestIsName(unittest.TestCase):
    def test_names(self):
        for value in ["a", "z", "f", "north", "abcdefgh", "stuvwxyz", "ijklmnop", "qr", "none", "zzzzzzzz"]:
            with self.subTest(value=value):
                self.assertIs(is_name(value), True)

    def test_other_values(self):
        others = [
            "", "abcdefghi", "a" * 2000, "A", "North", "northE", "a1", "1", "a b", " a", "a ", "a\n", "\n", "a_b",
            "_", "-", "a.b", "`", "{", "@", "[", "a~", None, True, False, 0, 3, (), [], ("a",), ["a"], ("a", "b"),
            ["n", "o"], (("a",),),
        ]
        for value in others:
            with self.subTest(value=value):
                self.assertIs(is_name(value), False)

    def test_by_name(self):
        self.assertIs(is_name(value="ab"), True)


class TestParts(unittest.TestCase):
    def refused(self, parts, index, traits=TRAITS):
        with self.subTest(parts=parts), self.assertRaises(InvalidPart) as caught:
            World(parts, traits)
        self.assertEqual(caught.exception.index, index)
        self.assertEqual(caught.exception.code, "InvalidPart")

    def test_one_to_three_parts(self):
        for many in (1, 2, 3):
            world = World(PARTS[:many], TRAITS)
            self.assertEqual(world.parts(), PARTS[:many])
            self.assertEqual(len(world), many)

    def test_depths_and_sizes(self):
        for sizes in [(1,), (MOST,), (1, 1), (MOST, 1), (1, MOST), (7, MOST), (1, 1, 1), (MOST, MOST, MOST), (2, 3, 4)]:
            with self.subTest(sizes=sizes):
                world = World([("a", sizes)], TRAITS)
                self.assertEqual(world.parts(), [("a", sizes)])
                self.assertEqual(world.depth(0), len(sizes))
                product = 1
                for size in sizes:
                    product *= size
                self.assertEqual(world.size(0), product)

    def test_depth_and_size_of_each_part(self):
        world = World(PARTS, TRAITS)
        self.assertEqual([world.depth(part) for part in range(3)], [2, 1, 3])
        self.assertEqual([world.size(part) for part in range(3)], [6, 4, 10])
        self.assertEqual([world.depth(part=2), world.size(part=2)], [3, 10])

    def test_no_row_and_too_many_rows(self):
        self.refused([], 0)
        self.refused((), 0)
        self.refused([("a", (1,)), ("b", (1,)), ("c", (1,)), ("d", (1,))], 3)
        self.refused([("a", (1,)), ("b", (1,)), ("c", (1,)), ("d", (1,)), ("e", (1,))], 3)

    def test_wrong_rows(self):
        rows = [
            *PLAIN_VALUES, ["a", (3,)], ("a",), ("a", (3,), 1), ((3,), "a"), "a3",
            ("", (3,)), ("abcdefghi", (3,)), ("A", (3,)), ("a1", (3,)), ("a b", (3,)), (None, (3,)), (True, (3,)),
            (7, (3,)), (("a",), (3,)), (["a"], (3,)),
        ]
        for row in rows:
            self.refused([row], 0)
            self.refused([("x", (2,)), row], 1)
            self.refused([("x", (2,)), ("y", (2, 2)), row], 2)

    def test_wrong_sizes(self):
        sizes = [
            *PLAIN_VALUES, [3], [3, 2], 3, "3", "333", (1, 1, 1, 1), (0,), (-1,), (MOST + 1,), (-MOST,), (True,),
            (False,), (None,), ("3",), ((3,),), ([3],), (3, 0), (3, True), (3, 2, 0), (3, -2, 5), (3, 2, MOST + 1),
            (2, [3]), (2, (3,)),
        ]
        for value in sizes:
            self.refused([("a", value)], 0)
            self.refused([("x", (2,)), ("a", value)], 1)

    def test_names_that_stand_in_a_row_before(self):
        self.refused([("a", (3,)), ("a", (3,))], 1)
        self.refused([("a", (3,)), ("a", (2, 2))], 1)
        self.refused([("a", (3,)), ("b", (3,)), ("a", (3,))], 2)
        self.refused([("a", (3,)), ("b", (3,)), ("b", (3,))], 2)

    def test_the_first_wrong_row_counts(self):
        self.refused([("a", (0,)), ("b", (0,))], 0)
        self.refused([("a", (3,)), ("b", (0,)), ("a", (3,))], 1)
        self.refused([("a", (3,)), ("a", (3,)), ("c", (0,))], 1)
        self.refused([("a", (3,)), ("b", (0,)), ("c", (3,)), ("d", (3,))], 1)

    def test_parts_come_before_traits(self):
        self.refused([("a", (0,))], 0, traits=[])
        self.refused([("a", (3,)), ("a", (3,))], 1, traits=[None])
        self.refused([], 0, traits=[])

    def test_values_that_are_no_list(self):
        for parts in [None, True, False, 0, 5, "", "a"]:
            self.refused(parts, 0)

    def test_part_named(self):
        world = World(PARTS, TRAITS)
        self.assertEqual([world.part_named(name) for name in ("north", "south", "sea")], [0, 1, 2])
        self.assertEqual(world.part_named(name="sea"), 2)
        for name in ["f", "nort", "norths", "", "North", "west", None, True, 0, 1, (), [], ("north",), ["north"]]:
            with self.subTest(name=name), self.assertRaises(UnknownName) as caught:
                world.part_named(name)
            self.assertEqual(repr(caught.exception.name), repr(name))
            self.assertIsInstance(caught.exception, Missing)


class TestTraits(unittest.TestCase):
    def refused(self, traits, index):
        with self.subTest(traits=traits), self.assertRaises(InvalidTrait) as caught:
            World(PARTS, traits)
        self.assertEqual(caught.exception.index, index)
        self.assertEqual(caught.exception.code, "InvalidTrait")

    def test_one_to_six_traits(self):
        rows = [(name, 1, False, False) for name in ("a", "b", "c", "d", "e", "f")]
        for many in range(1, 7):
            self.assertEqual(World(PARTS, rows[:many]).traits(), rows[:many])

    def test_all_kinds_of_traits(self):
        for ends in (1, 2, 3):
            for is_flag in (False, True):
                for is_even in (False, True):
                    row = ("f", ends, is_flag, is_even)
                    with self.subTest(row=row):
                        world = World(PARTS, [row])
                        self.assertEqual(world.traits(), [row])
                        self.assertEqual(world.trait_named("f"), row)

    def test_no_row_and_too_many_rows(self):
        rows = [(name, 1, False, False) for name in ("a", "b", "c", "d", "e", "f", "g", "h")]
        self.refused([], 0)
        self.refused((), 0)
        self.refused(rows[:7], 6)
        self.refused(rows, 6)

    def test_wrong_rows(self):
        rows = [
            *PLAIN_VALUES, ["f", 1, False, False], ("f",), ("f", 1), ("f", 1, False), ("f", 1, False, False, False),
            ("", 1, False, False), ("F", 1, False, False), ("abcdefghi", 1, False, False), ("a1", 1, False, False),
            (None, 1, False, False), (True, 1, False, False), (1, 1, False, False), (["f"], 1, False, False),
            (("f",), 1, False, False),
            ("f", 0, False, False), ("f", 4, False, False), ("f", -1, False, False), ("f", True, False, False),
            ("f", False, False, False), ("f", None, False, False), ("f", "1", False, False),
            ("f", (1,), False, False), ("f", [1], False, False),
            ("f", 1, 0, False), ("f", 1, 1, False), ("f", 1, None, False), ("f", 1, "", False), ("f", 1, (), False),
            ("f", 1, False, 0), ("f", 1, False, 1), ("f", 1, False, None), ("f", 1, False, "no"),
            ("f", 1, False, []), ("f", 1, [False], False), ("f", 1, (True,), False),
        ]
        for row in rows:
            self.refused([row], 0)
            self.refused([("x", 1, False, False), row], 1)
            self.refused([("x", 1, False, False), ("y", 2, True, True), ("z", 3, False, True), row], 3)

    def test_names_that_stand_in_a_row_before(self):
        self.refused([("f", 1, False, False), ("f", 1, False, False)], 1)
        self.refused([("f", 1, False, False), ("f", 2, True, True)], 1)
        self.refused([("f", 1, False, False), ("g", 2, True, True), ("f", 3, True, False)], 2)

    def test_the_first_wrong_row_counts(self):
        self.refused([("f", 0, False, False), ("f", 0, False, False)], 0)
        self.refused([("f", 1, False, False), ("f", 1, False, False), None], 1)
        self.refused([("f", 1, False, False), None, ("f", 1, False, False)], 1)
        rows = [(name, 1, False, False) for name in ("a", "b", "c", "d", "c", "f", "g")]
        self.refused(rows, 4)

    def test_values_that_are_no_list(self):
        for traits in [None, True, False, 0, 5, "", "a"]:
            self.refused(traits, 0)

    def test_a_trait_may_have_the_name_of_a_part(self):
        world = World([("f", (2,))], [("f", 1, False, False)])
        self.assertEqual(world.part_named("f"), 0)
        self.assertEqual(world.trait_named("f"), ("f", 1, False, False))

    def test_trait_named(self):
        world = World(PARTS, TRAITS)
        self.assertEqual([world.trait_named(row[0]) for row in TRAITS], TRAITS)
        self.assertEqual(world.trait_named(name="g"), ("g", 2, False, True))
        for name in ["north", "", "F", "ff", "k", None, True, False, 0, 1, (), [], ("f",), ["f"]]:
            with self.subTest(name=name), self.assertRaises(UnknownName) as caught:
                world.trait_named(name)
            self.assertEqual(repr(caught.exception.name), repr(name))
            self.assertIsInstance(caught.exception, Missing)


class TestPlain(unittest.TestCase):
    def test_good_sizes(self):
        for sizes in [(1,), (3,), (MOST,), (2, 5), (1, MOST), (4, 3, 2), (MOST, MOST, MOST)]:
            with self.subTest(sizes=sizes):
                world = World.plain(*sizes)
                self.assertIsInstance(world, World)
                self.assertEqual(world.parts(), [("all", sizes)])
                self.assertEqual(world.traits(), [("f", 1, False, False)])
                self.assertEqual(world, World([("all", sizes)], [("f", 1, False, False)]))

    def test_wrong_sizes(self):
        wrong = [
            (), (1, 1, 1, 1), (0,), (-3,), (MOST + 1,), (True,), (False,), (None,), ("3",), ((3,),), ([3],), (3, 0),
            (3, True), (3, 3, None), (2, 2, MOST + 1),
        ]
        for sizes in wrong:
            with self.subTest(sizes=sizes), self.assertRaises(InvalidPart) as caught:
                World.plain(*sizes)
            self.assertEqual(caught.exception.index, 0)

    def test_it_is_a_class_method(self):
        self.assertEqual(World.plain(4).plain(2, 3), World.plain(2, 3))


class TestWorld(unittest.TestCase):
    def test_class_values(self):
        self.assertEqual(World.MOST_PARTS, 3)
        self.assertEqual(World.MOST_TRAITS, 6)

    def test_by_name(self):
        self.assertEqual(World(traits=TRAITS, parts=PARTS), World(PARTS, TRAITS))

    def test_tuples_may_be_passed(self):
        world = World(tuple(PARTS), tuple(TRAITS))
        self.assertEqual(world, World(PARTS, TRAITS))
        self.assertEqual(world.parts(), PARTS)
        self.assertEqual(world.traits(), TRAITS)
        self.assertIsInstance(world.parts(), list)
        self.assertIsInstance(world.traits(), list)

    def test_rows_are_tuples(self):
        world = World(PARTS, TRAITS)
        for row in [*world.parts(), *world.traits()]:
            self.assertIsInstance(row, tuple)

    def test_passed_lists_are_copied(self):
        parts, traits = list(PARTS), list(TRAITS)
        world = World(parts, traits)
        self.assertEqual((parts, traits), (PARTS, TRAITS))
        parts[0] = ("other", (9,))
        parts.append(None)
        traits.pop()
        traits.append("x")
        self.assertEqual((world.parts(), world.traits(), len(world)), (PARTS, TRAITS, 3))
        self.assertEqual(world.part_named("north"), 0)
        self.assertEqual(world.trait_named("h"), TRAITS[2])
        self.assertEqual(world, World(PARTS, TRAITS))

    def test_told_lists_are_new(self):
        world = World(PARTS, TRAITS)
        world.parts().clear()
        world.traits().append(("k", 1, False, False))
        self.assertEqual((world.parts(), world.traits(), len(world)), (PARTS, TRAITS, 3))
        self.assertIsNot(world.parts(), world.parts())
        self.assertIsNot(world.traits(), world.traits())

    def test_arguments_of_a_refused_world_are_not_changed(self):
        parts, traits = [("a", (3,)), ("a", (3,))], [("f", 1, False, False)]
        with self.assertRaises(FewError):
            World(parts, traits)
        self.assertEqual(parts, [("a", (3,)), ("a", (3,))])
        self.assertEqual(traits, [("f", 1, False, False)])

    def test_equal_worlds(self):
        self.assertTrue(World(PARTS, TRAITS) == World(list(PARTS), list(TRAITS)))
        self.assertFalse(World(PARTS, TRAITS) != World(list(PARTS), list(TRAITS)))
        world = World.plain(3)
        self.assertTrue(world == world)

    def test_unequal_worlds(self):
        others = [
            World(PARTS[:2], TRAITS), World(PARTS, TRAITS[:2]), World(PARTS[::-1], TRAITS), World(PARTS, TRAITS[::-1]),
            World([("northern", (3, 2)), *PARTS[1:]], TRAITS), World([("north", (3, 3)), *PARTS[1:]], TRAITS),
            World([("north", (3,)), *PARTS[1:]], TRAITS), World([("north", (2, 3)), *PARTS[1:]], TRAITS),
            World(PARTS, [("e", 1, False, False), *TRAITS[1:]]), World(PARTS, [("f", 2, False, False), *TRAITS[1:]]),
            World(PARTS, [("f", 1, True, False), *TRAITS[1:]]), World(PARTS, [("f", 1, False, True), *TRAITS[1:]]),
        ]
        world = World(PARTS, TRAITS)
        for other in others:
            with self.subTest(parts=other.parts(), traits=other.traits()):
                self.assertFalse(world == other)
                self.assertTrue(world != other)
                self.assertFalse(other == world)

    def test_a_world_equals_nothing_else(self):
        world = World.plain(3)
        for other in [*PLAIN_VALUES, world.parts(), (world.parts(), world.traits()), [world], repr(world), World]:
            with self.subTest(other=other):
                self.assertFalse(world == other)
                self.assertTrue(world != other)
                self.assertFalse(other == world)

    def test_repr(self):
        self.assertEqual(repr(World(PARTS[:2], TRAITS[:1])), "World(2 parts, 1 traits)")
        self.assertEqual(repr(World.plain(10)), "World(1 parts, 1 traits)")
        self.assertEqual(repr(World(PARTS, TRAITS)), "World(3 parts, 3 traits)")

    def test_len_is_the_number_of_parts(self):
        self.assertEqual(len(World(PARTS[:2], TRAITS)), 2)
        self.assertEqual(len(World.plain(10, 10)), 1)


if __name__ == "__main__":
    unittest.main()
