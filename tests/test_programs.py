"""Tests of fewtell.programs: the forms of programs, and their measures."""

import unittest

from fewtell import programs
from fewtell.errors import InvalidProgram, TooLarge, TooMany, TooWide
from fewtell.programs import check_program, degree_of, products_of, width_of
from fewtell.worlds import World

WORLD = World(
    [("north", (3, 2)), ("south", (4,))],
    [("f", 1, False, False), ("g", 2, False, True), ("h", 3, True, False)],
)
WAVES = ("b", "a")
MOST = 10 ** 9 - 1
ONE = ("num", 1, 1)
F = ("trait", "f", ("i",))
PLAIN_VALUES = [None, True, False, 0, 1, -2, "", "f", "num", (), [], ((),), [[]], (None, None), ["num", 1, 1]]


def within(part, *variables):
    for variable in reversed(variables):
        part = ("sum", variable, part)
    return part


def plus(part, many):
    return ("plus", *[part] * many)


def times(part, many):
    return ("times", *[part] * many)


class Checks(unittest.TestCase):
    def taken(self, program, waves=WAVES):
        with self.subTest(program=program):
            self.assertIsNone(check_program(WORLD, program, waves=waves))

    def refused(self, program, path, waves=WAVES):
        with self.subTest(program=program), self.assertRaises(InvalidProgram) as caught:
            check_program(WORLD, program, waves=waves)
        self.assertEqual(caught.exception.path, path)
        self.assertIsInstance(caught.exception.path, tuple)
        self.assertEqual(caught.exception.code, "InvalidProgram")

    def refused_inside(self, part):
        """The part is wrong on its own, and at each place in another program that knows the variables i and j."""
        self.refused(part, ())
        self.refused(within(part, "i", "j"), (0, 0))
        self.refused(within(("times", F, ("plus", ONE, part, ONE)), "i", "j"), (0, 0, 1, 1))
        self.refused(within(("power", part, 0), "i", "j"), (0, 0, 0))


class TestForms(Checks):
    def test_values_that_are_no_program(self):
        for value in [*PLAIN_VALUES, ("Num", 1, 1), ("",), (("num", 1, 1),), ("minus", ONE, ONE), (["num"], 1, 1),
                      (True, 1, 1), (None,), (("num",), 1, 1), ("f", "i"), "sum(i: f(i))"]:
            self.refused_inside(value)

    def test_num(self):
        for top, bottom in [(0, 1), (1, 1), (-1, 1), (MOST, 1), (-MOST, 1), (1, MOST), (-5, 7), (MOST - 1, MOST)]:
            self.taken(("num", top, bottom))
        wrong = [
            ("num",), ("num", 1), ("num", 1, 1, 1), ("num", MOST + 1, 1), ("num", -MOST - 1, 1), ("num", 1, MOST + 1),
            ("num", 2, 4), ("num", 0, 2), ("num", 1, 0), ("num", 0, 0), ("num", 1, -1), ("num", -1, -2),
            ("num", True, 1), ("num", 1, True), ("num", False, 1), ("num", None, 1), ("num", "1", 1),
            ("num", (1, 2), 1), ("num", (1, 2)), ("num", [1], 1),
        ]
        for program in wrong:
            self.refused_inside(program)

    def test_trait(self):
        self.taken(within(F, "i"))
        self.taken(within(("trait", "g", ("i", "i")), "i"))
        self.taken(within(("trait", "g", ("j", "i")), "i", "j"))
        self.taken(within(("trait", "h", ("k", "i", "k")), "i", "k"))
        wrong = [
            ("trait",), ("trait", "f"), ("trait", "f", ("i",), 1), ("trait", "k", ("i",)), ("trait", "north", ("i",)),
            ("trait", "", ("i",)), ("trait", None, ("i",)), ("trait", True, ("i",)), ("trait", ["f"], ("i",)),
            ("trait", "f", ()), ("trait", "f", ("i", "j")), ("trait", "f", ["i"]), ("trait", "f", "i"),
            ("trait", "f", None), ("trait", "f", ("x",)), ("trait", "f", (None,)), ("trait", "f", (("i",),)),
            ("trait", "f", (0,)), ("trait", "g", ("i",)), ("trait", "g", ("i", "x")), ("trait", "g", ("x", "i")),
            ("trait", "h", ("i", "j")), ("trait", "h", ("i", "j", "i", "j")), ("trait", "f", ("",)),
        ]
        for program in wrong:
            self.refused_inside(program)

    def test_same(self):
        self.taken(within(("same", "i", "j"), "i", "j"))
        self.taken(within(("same", "i", "i"), "i"))
        for program in [("same",), ("same", "i"), ("same", "i", "j", "i"), ("same", "i", "x"), ("same", "x", "j"),
                        ("same", ("i", "j")), ("same", None, "i"), ("same", "i", 1), ("same", ["i"], "i")]:
            self.refused_inside(program)

    def test_near(self):
        for level in range(4):
            self.taken(within(("near", level, "i", "j"), "i", "j"))
        wrong = [
            ("near",), ("near", 1, "i"), ("near", 1, "i", "j", "i"), ("near", "i", "j"), ("near", 4, "i", "j"),
            ("near", -1, "i", "j"), ("near", True, "i", "j"), ("near", False, "i", "j"), ("near", None, "i", "j"),
            ("near", "1", "i", "j"), ("near", (1,), "i", "j"), ("near", 1, "i", "x"), ("near", 1, "x", "j"),
            ("near", 1, ("i",), "j"), ("near", "i", "j", 1),
        ]
        for program in wrong:
            self.refused_inside(program)

    def test_part(self):
        self.taken(within(("part", "north", "i"), "i"))
        self.taken(within(("part", "south", "j"), "i", "j"))
        wrong = [
            ("part",), ("part", "north"), ("part", "north", "i", "j"), ("part", "f", "i"), ("part", "nort", "i"),
            ("part", 0, "i"), ("part", None, "i"), ("part", ["north"], "i"), ("part", "north", "x"),
            ("part", "north", ("i",)), ("part", "i", "north"), ("part", "a", "i"),
        ]
        for program in wrong:
            self.refused_inside(program)

    def test_wave(self):
        self.taken(within(("wave", "a", "i"), "i"))
        self.taken(within(("wave", "b", "j"), "i", "j"))
        wrong = [
            ("wave",), ("wave", "a"), ("wave", "a", "i", "j"), ("wave", "c", "i"), ("wave", "north", "i"),
            ("wave", 0, "i"), ("wave", None, "i"), ("wave", ("a",), "i"), ("wave", "a", "x"), ("wave", "a", None),
            ("wave", "i", "a"), ("wave", "ba", "i"), ("wave", "", "i"),
        ]
        for program in wrong:
            self.refused_inside(program)

    def test_waves_are_those_that_were_passed(self):
        program = within(("wave", "a", "i"), "i")
        self.refused(program, (0,), waves=())
        self.refused(program, (0,), waves=("b", "ab"))
        self.taken(program, waves=("a",))
        with self.assertRaises(InvalidProgram) as caught:
            check_program(WORLD, program)
        self.assertEqual(caught.exception.path, (0,))
        with self.assertRaises(TypeError):
            check_program(WORLD, program, ("a",))
        self.assertIsNone(check_program(value=program, waves=("a",), world=WORLD))

    def test_sum(self):
        for name in ["i", "k", "abcdefgh", "sum", "f", "north"]:
            self.taken(("sum", name, ONE))
        wrong = [
            ("sum",), ("sum", "k"), ("sum", "k", ONE, ONE), ("sum", "", ONE), ("sum", "K", ONE), ("sum", "k1", ONE),
            ("sum", "abcdefghi", ONE), ("sum", None, ONE), ("sum", True, ONE), ("sum", 1, ONE), ("sum", ("k",), ONE),
            ("sum", ["k"], ONE), ("sum", ONE, "k"),
        ]
        for program in wrong:
            self.refused_inside(program)
        self.refused(("sum", "k", None), (0,))

    def test_a_sum_inside_of_a_sum_with_its_variable(self):
        self.refused(within(ONE, "i", "i"), (0,))
        self.refused(within(ONE, "i", "j", "i"), (0, 0))
        self.refused(("sum", "i", ("plus", ONE, ("power", ("sum", "i", None), 2))), (0, 1, 0))
        self.taken(("times", within(F, "i"), within(F, "i")))
        self.taken(("sum", "j", ("plus", within(F, "i"), within(F, "i"))))

    def test_variables_outside_of_their_sum(self):
        self.refused(("times", within(F, "i"), F), (1,))
        self.refused(("times", F, within(F, "i")), (0,))
        self.refused(("sum", "j", ("plus", within(F, "i"), F)), (0, 1))
        self.refused(("plus", ("sum", "i", ONE), ("sum", "j", F)), (1, 0))
        self.refused(F, ())

    def test_a_part_is_no_variable(self):
        for kind in ("plus", "times"):
            self.refused((kind, ONE, ("trait", "f", (ONE,))), (1,))
            self.refused((kind, ONE, ("same", ONE, ONE)), (1,))

    def test_plus_and_times(self):
        for kind in ("plus", "times"):
            for many in range(2, 9):
                self.taken((kind, *[ONE] * many))
            for program in [(kind,), (kind, ONE), (kind, *[ONE] * 9), (kind, *[ONE] * 20), (kind, *[None] * 9)]:
                self.refused_inside(program)
            for number in range(8):
                parts = [ONE] * 8
                parts[number] = None
                self.refused((kind, *parts), (number,))
            self.refused((kind, [ONE, ONE]), ())
            self.refused((kind, (ONE, ONE), ONE), (0,))
            self.refused((kind, ONE, [*ONE]), (1,))

    def test_power(self):
        for count in range(5):
            self.taken(within(("power", F, count), "i"))
        wrong = [
            ("power",), ("power", ONE), ("power", ONE, 1, 1), ("power", ONE, 5), ("power", ONE, -1),
            ("power", ONE, True), ("power", ONE, False), ("power", ONE, None), ("power", ONE, "2"),
            ("power", ONE, (2,)), ("power", 2, ONE), ("power", ONE, ("num", 2, 1)),
        ]
        for program in wrong:
            self.refused_inside(program)
        self.refused(("power", None, 0), (0,))
        self.refused(("power", F, 0), (0,))
        self.refused(within(("power", within(F, "i"), 0), "i"), (0, 0))


class TestPaths(Checks):
    def test_a_part_ahead_of_those_inside_of_it(self):
        self.refused(("power", None, 7), ())
        self.refused(("plus", ONE, ("sum", "X", None), None), (1,))
        self.refused(("times", ("plus", None), None), (0,))
        self.refused(("sum", "i", ("sum", "i", ("sum", "i", None))), (0,))

    def test_parts_in_order(self):
        self.refused(("plus", ONE, None, "x"), (1,))
        self.refused(("plus", ("plus", ONE, ("plus", ONE, None)), None), (0, 1, 1))
        self.refused(("plus", within(("times", F, F, None), "i"), None), (0, 0, 2))
        self.refused(("plus", ONE, ("power", ("sum", "i", ("plus", F, F, F, ("trait", "f", ("j",)))), 2)), (1, 0, 0, 3))

    def test_ten_and_eleven_deep(self):
        wraps = [
            lambda part: ("power", part, 1), lambda part: ("plus", ONE, part), lambda part: ("times", part, ONE),
        ]
        for wrap in wraps:
            program, place = ONE, wrap(("mark",)).index(("mark",)) - 1
            for depth in range(1, 11):
                self.taken(program)
                program = wrap(program)
            self.refused(program, (place,) * 9 + (0,))
            self.refused(wrap(wrap(program)), (place,) * 9 + (0,))
        names = list("abcdefghijkl")
        self.taken(within(("power", within(ONE, *names[4:8]), 0), *names[:4]))
        self.refused(within(ONE, *names[:10]), (0,) * 10)
        self.refused(within(None, *names[:9]), (0,) * 9)
        self.refused(within(None, *names), (0,) * 10)

    def test_the_first_one_that_is_too_deep(self):
        deep = ONE
        for _ in range(9):
            deep = ("power", deep, 1)
        self.taken(deep)
        self.refused(("plus", ONE, deep, None), (1,) + (0,) * 9)
        self.refused(("plus", ONE, None, deep), (1,))

    def test_wrong_parts_come_before_what_is_too_great(self):
        wide = within(times(F, 2), "i", "j", "k", "l", "m")
        self.refused(("plus", wide, None), (1,))
        self.refused(("times", within(times(F, 8), "i"), within(F, "i"), None), (2,))
        self.refused(("plus", times(plus(ONE, 8), 3), None), (1,))


class TestMeasures(unittest.TestCase):
    def check(self, program, width, degree, products):
        with self.subTest(program=program):
            self.assertEqual([width_of(program), degree_of(program), products_of(program)], [width, degree, products])

    def test_programs_without_parts(self):
        self.check(("num", 3, 4), 0, 0, 1)
        for variables in [("i",), ("i", "j"), ("i", "j", "k")]:
            self.check(("trait", "f", variables), 0, 1, 1)
        self.check(("same", "i", "j"), 0, 0, 1)
        self.check(("near", 1, "i", "j"), 0, 0, 1)
        self.check(("part", "x", "i"), 0, 0, 1)
        self.check(("wave", "x", "i"), 0, 0, 1)

    def test_sum(self):
        self.check(("sum", "i", ONE), 1, 0, 1)
        self.check(within(F, "i"), 1, 1, 1)
        self.check(within(times(F, 3), "i", "j", "k"), 3, 3, 1)
        self.check(within(plus(F, 3), "i", "j"), 2, 1, 3)

    def test_plus(self):
        self.check(("plus", within(F, "i"), within(times(F, 2), "i", "j"), ONE), 2, 2, 3)
        self.check(("plus", times(F, 5), within(F, "i", "j", "k")), 3, 5, 2)
        self.check(plus(plus(ONE, 3), 4), 0, 0, 12)

    def test_times(self):
        self.check(("times", within(F, "i"), within(times(F, 2), "i", "j"), ONE), 3, 3, 1)
        self.check(("times", plus(F, 3), plus(ONE, 4), F), 0, 2, 12)
        self.check(times(within(plus(F, 2), "i"), 3), 3, 3, 8)

    def test_power(self):
        for count in range(5):
            self.check(("power", within(F, "i"), count), count, count, 1)
            self.check(("power", plus(within(times(F, 2), "i", "j"), 3), count), 2 * count, 2 * count, 3 ** count)
        self.check(("power", times(within(plus(F, 8), "i"), 8), 0), 0, 0, 1)
        self.check(("power", ("power", plus(F, 2), 3), 4), 0, 12, 4096)

    def test_inside_of_one_another(self):
        part = ("plus", ("power", within(F, "j"), 2), ("times", F, ("same", "i", "i"), plus(ONE, 2)))
        self.check(part, 2, 2, 3)
        self.check(within(part, "i"), 3, 2, 3)
        self.check(("power", within(part, "i"), 2), 6, 4, 9)
        self.check(("plus", ("power", within(part, "i"), 2), within(part, "i")), 6, 4, 12)
        self.check(("times", ("power", within(part, "i"), 2), within(part, "i")), 9, 6, 27)

    def test_whatever_names_and_variables_are(self):
        self.check(("sum", "X y", ("trait", "no name", ("?", "i"))), 1, 1, 1)
        self.check(within(F, "i", "i", "i", "i", "i", "i"), 6, 1, 1)
        self.assertEqual(width_of(program=within(F, "i")), 1)
        self.assertEqual(degree_of(program=within(F, "i")), 1)
        self.assertEqual(products_of(program=within(F, "i")), 1)

    def test_great_measures(self):
        program = plus(F, 8)
        for _ in range(4):
            program = ("power", program, 4)
        self.check(program, 0, 256, 8 ** 256)


class TestBounds(unittest.TestCase):
    def refused(self, program, error, most):
        with self.subTest(program=program), self.assertRaises(error) as caught:
            check_program(WORLD, program, waves=WAVES)
        self.assertEqual(caught.exception.most, most)

    def taken(self, program):
        with self.subTest(program=program):
            self.assertIsNone(check_program(WORLD, program, waves=WAVES))

    def test_constants(self):
        self.assertEqual([programs.MOST_PLACES, programs.MOST_DEGREE, programs.MOST_PRODUCTS], [4, 8, 60])

    def test_width(self):
        self.taken(within(F, "i", "j", "k", "l"))
        self.refused(within(F, "i", "j", "k", "l", "m"), TooWide, 4)
        self.taken(("power", within(F, "i"), 4))
        self.taken(times(within(F, "i", "j"), 2))
        self.refused(("times", within(F, "i", "j"), ("power", within(F, "i"), 3)), TooWide, 4)
        self.taken(plus(within(F, "i", "j", "k", "l"), 8))
        self.refused(("plus", ONE, within(ONE, "i", "j", "k", "l", "m")), TooWide, 4)
        self.taken(("power", within(ONE, "i", "j", "k", "l", "m"), 0))

    def test_degree(self):
        self.taken(within(times(F, 8), "i"))
        self.refused(within(("times", times(F, 8), F), "i"), TooLarge, 8)
        self.taken(within(("power", times(F, 2), 4), "i"))
        self.refused(within(("times", ("power", times(F, 2), 4), F), "i"), TooLarge, 8)
        self.refused(within(("power", times(F, 3), 3), "i"), TooLarge, 8)
        self.taken(within(("power", times(F, 8), 0), "i"))

    def test_products(self):
        self.taken(("times", plus(ONE, 6), plus(ONE, 5), plus(ONE, 2)))
        self.refused(("plus", ("times", plus(ONE, 6), plus(ONE, 5), plus(ONE, 2)), ONE), TooMany, 60)
        self.taken(("power", plus(ONE, 7), 2))
        self.refused(("power", plus(ONE, 8), 2), TooMany, 60)
        self.refused(("power", plus(ONE, 3), 4), TooMany, 60)
        self.taken(("power", plus(plus(ONE, 8), 8), 0))
        self.refused(plus(plus(ONE, 8), 8), TooMany, 60)
        self.taken(plus(plus(ONE, 7), 8))

    def test_in_this_order(self):
        wide = within(plus(times(F, 2), 8), "i")
        self.refused(("power", ("times", wide, wide), 4), TooWide, 4)
        self.refused(("power", wide, 4), TooMany, 60)
        self.refused(within(("power", plus(times(F, 4), 8), 4), "i"), TooLarge, 8)
        self.refused(("plus", within(ONE, "i", "j", "k", "l", "m"), within(times(times(F, 8), 2), "i")), TooWide, 4)
        self.refused(("plus", plus(plus(ONE, 8), 8), within(times(times(F, 8), 2), "i")), TooLarge, 8)


if __name__ == "__main__":
    unittest.main()
