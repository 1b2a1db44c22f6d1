"""Tests of fewtell.plans: waves, sights, roots, least wishes and chances."""

import itertools
import random
import unittest
from fractions import Fraction

from fewtell.errors import InvalidSight, InvalidWave, InvalidWeb, UnknownName
from fewtell.plans import Plan
from fewtell.worlds import World
from tests.by_hand import all_drawings, pair, random_plan, random_web

TRAITS = [("f", 1, False, False), ("g", 2, False, False), ("even", 2, False, True), ("one", 1, True, True)]
PARTS = [("north", (5, 4)), ("south", (7,))]
WORLD = World(PARTS, TRAITS)
MOST = 10 ** 30
ALL = ((None, None), (None,))
GOOD = ("a", None, ((3, 2), ((1, 2),)))
PLAIN_VALUES = [None, True, False, 0, 1, -2, "", "f", "abc", (), [], ((),), [[]], (None, None), (None, None, None)]


def wave(name, source, *hows):
    return (name, source, hows)


class TestWaves(unittest.TestCase):
    def refused(self, waves, index, sights=()):
        with self.subTest(waves=waves), self.assertRaises(InvalidWave) as caught:
            Plan(WORLD, waves, sights)
        self.assertEqual(caught.exception.index, index)
        self.assertEqual(caught.exception.code, "InvalidWave")

    def taken(self, *waves):
        with self.subTest(waves=waves):
            plan = Plan(WORLD, list(waves))
            self.assertEqual(plan.waves(), list(waves))
            self.assertEqual(plan.names(), [name for name, _, _ in waves])

    def test_one_to_three_waves(self):
        rows = [GOOD, ("b", "a", ALL), ("c", None, ALL)]
        for many in (1, 2, 3):
            self.taken(*rows[:many])

    def test_no_row_and_too_many_rows(self):
        self.refused([], 0)
        self.refused((), 0)
        rows = [(name, None, ALL) for name in "abcde"]
        self.refused(rows[:4], 3)
        self.refused(rows, 3)
        self.refused([*rows[:3], None], 3)

    def test_values_that_are_no_list(self):
        for waves in [None, True, False, 0, 3, "", "abc"]:
            self.refused(waves, 0)

    def test_wrong_rows_at_every_place(self):
        rows = [
            *PLAIN_VALUES, ["x", None, ALL], ("x", None), ("x",), ("x", None, ALL, ()), (None, "x", ALL),
            ("", None, ALL), ("X", None, ALL), ("abcdefghi", None, ALL), ("x1", None, ALL), (True, None, ALL),
            (0, None, ALL), (["x"], None, ALL), (("x",), None, ALL), (None, None, ALL),
        ]
        for row in rows:
            self.refused([row], 0)
            self.refused([GOOD, row], 1)
            self.refused([GOOD, ("b", "a", ALL), row], 2)

    def test_names_that_stand_in_a_row_before(self):
        self.refused([GOOD, ("a", None, ALL)], 1)
        self.refused([GOOD, ("a", "a", ALL)], 1)
        self.refused([GOOD, ("b", None, ALL), ("b", "a", ALL)], 2)
        self.refused([GOOD, ("b", None, ALL), ("a", "b", ALL)], 2)

    def test_sources(self):
        self.taken(GOOD, ("b", "a", ALL), ("c", "b", ALL))
        self.taken(GOOD, ("b", "a", ALL), ("c", "a", ALL))
        self.taken(GOOD, ("b", None, ALL), ("c", None, ALL))
        for source in ["b", "c", "", "A", True, False, 0, 1, (), [], ("a",), ["a"], "aa", "north"]:
            self.refused([GOOD, ("b", source, ALL)], 1)
        self.refused([("a", "a", ALL)], 0)
        self.refused([("a", "b", ALL), ("b", None, ALL)], 0)
        self.refused([GOOD, ("b", "c", ALL), ("c", None, ALL)], 1)

    def test_hows_of_other_forms(self):
        wrong = [
            *PLAIN_VALUES[:-2], (None, None, None), ((None, None),), (*ALL, ()), (*ALL, (None,)),
            ((None,), (None, None)),
            ((None,), (None,)), ((None, None, None), (None,)), ((None, None), ()), ((None, None), (None, None)),
            ([None, None], (None,)), ((None, None), [None]), [(None, None), (None,)], ((None, None), None),
            (None, (None,)), ("ab", "a"), ((None, None), 3), ((), ()),
        ]
        for hows in wrong:
            self.refused([("x", None, hows)], 0)
            self.refused([GOOD, ("x", "a", hows)], 1)

    def test_values_that_do_not_say_how(self):
        wrong = [
            True, False, "", "1", "1/2", (), (1,), (1, 2, 3), [], [1, 2], (None,), (0, 1), (1, 1), (2, 1), (3, 2),
            (-1, 2),
            (2, 4), (1, 0), (1, -2), (True, 2), (1, True), ("1", 2), ((1, 2),), -1, (0, 2), (2, 2),
        ]
        for how in wrong:
            self.refused([wave("x", None, (how, None), (None,))], 0)
            self.refused([wave("x", None, (None, how), (None,))], 0)
            self.refused([wave("x", None, (None, None), (how,))], 0)
            self.refused([GOOD, wave("x", None, (None, None), (how,))], 1)

    def test_fractions(self):
        for how in [(1, 2), (1, 10 ** 31 - 1), (10 ** 31 - 2, 10 ** 31 - 1), (2, 3)]:
            self.taken(wave("x", None, (how, how), (how,)))

    def test_numbers_of_all_people(self):
        for numbers in itertools.product((0, 1, 5), (0, 4), (0, 7)):
            self.taken(wave("x", None, numbers[:2], numbers[2:]))
        self.refused([wave("x", None, (6, None), (None,))], 0)
        self.refused([wave("x", None, (None, 5), (None,))], 0)
        self.refused([wave("x", None, (None, None), (8,))], 0)
        self.refused([wave("x", None, (None, None), (10 ** 31 - 1,))], 0)

    def test_numbers_of_a_wave(self):
        first = wave("a", None, (3, 2), (0,))
        self.taken(first, wave("b", "a", (3, 2), (0,)), wave("c", "b", (3, 1), (0,)))
        self.taken(first, wave("b", "a", (2, None), (None,)), wave("c", "b", (2, 2), (0,)))
        self.refused([first, wave("b", "a", (4, 2), (0,))], 1)
        self.refused([first, wave("b", "a", (3, 3), (0,))], 1)
        self.refused([first, wave("b", "a", (3, 2), (1,))], 1)
        self.refused([first, wave("b", "a", (2, None), (None,)), wave("c", "b", (3, None), (None,))], 2)
        self.refused([first, wave("b", "a", (2, None), (None,)), wave("c", "b", (2, 3), (None,))], 2)
        self.taken(first, wave("b", "a", (2, None), (None,)), wave("c", "a", (3, None), (None,)))
        self.taken(first, wave("b", None, (5, 4), (7,)))

    def test_numbers_where_the_supply_is_not_fixed(self):
        first = wave("a", None, ((1, 2), 2), (None,))
        self.taken(first, wave("b", "a", (None, 2), (7,)))
        self.taken(first, wave("b", "a", ((1, 3), 1), (7,)))
        for number in (0, 1, 5):
            self.refused([first, wave("b", "a", (number, None), (None,))], 1)
        # A wave that draws all of them does not fix it.
        self.taken(first, wave("b", "a", (None, 2), (7,)), wave("c", "b", (None, 2), (7,)))
        self.refused([first, wave("b", "a", (None, 2), (7,)), wave("c", "b", (0, 2), (7,))], 2)
        self.refused([wave("a", None, (2, 2), ((1, 2),)), wave("b", "a", (2, 2), (0,))], 1)
        self.taken(wave("a", None, (None, None), (None,)), wave("b", "a", (5, 4), (7,)))

    def test_the_first_wrong_row_counts(self):
        self.refused([("x", None, None), ("x", None, None)], 0)
        self.refused([GOOD, ("b", "c", ALL), None], 1)
        self.refused([GOOD, None, ("b", "c", ALL), GOOD], 1)
        self.refused([GOOD, GOOD, GOOD, GOOD], 1)

    def test_waves_come_before_sights(self):
        self.refused([], 0, [None])
        self.refused([GOOD, None], 1, [None])


class TestSights(unittest.TestCase):
    def refused(self, sights, index):
        with self.subTest(sights=sights), self.assertRaises(InvalidSight) as caught:
            Plan(WORLD, [GOOD, ("b", "a", ALL)], sights)
        self.assertEqual(caught.exception.index, index)
        self.assertEqual(caught.exception.code, "InvalidSight")

    def taken(self, sights):
        plan = Plan(WORLD, [GOOD, ("b", "a", ALL)], sights)
        self.assertEqual(plan.sights(), list(sights))
        self.assertIsInstance(plan.sights(), list)

    def test_sights(self):
        self.taken([])
        self.taken(())
        for row in [("f", "a", "all"), ("g", "b", "first"), ("g", "a", "any"), ("even", "a", "all"),
                    ("even", "b", "any"),
                    ("one", "a", "all"), ("one", "a", "any"), ("f", "b", "first")]:
            self.taken([row])
            self.taken([("f", "a", "any"), row])
        self.taken((("f", "a", "all"), ("f", "b", "all"), ("f", "a", "first")))

    def test_wrong_rows_at_every_place(self):
        wrong = [
            *PLAIN_VALUES, ["f", "a", "all"], ("f", "a"), ("f",), ("f", "a", "all", 1), ("k", "a", "all"),
            ("north", "a", "all"), ("", "a", "all"), (None, "a", "all"), (True, "a", "all"), (["f"], "a", "all"),
            (("f",), "a", "all"), ("f", "c", "all"), ("f", "", "all"), ("f", None, "all"), ("f", True, "all"),
            ("f", ["a"], "all"), ("f", ("a",), "all"), ("f", "ab", "all"), ("f", "f", "all"), ("f", "a", ""),
            ("f", "a", "last"), ("f", "a", "All"), ("f", "a", None), ("f", "a", True), ("f", "a", 0),
            ("f", "a", ["all"]),
            ("f", "a", ("all",)), ("f", "a", "al"), ("even", "a", "first"), ("one", "a", "first"), ("a", "f", "all"),
        ]
        for row in wrong:
            self.refused([row], 0)
            self.refused([("f", "a", "all"), row], 1)
            self.refused([("f", "a", "all"), ("g", "b", "first"), row, None], 2)

    def test_equal_rows(self):
        row, other = ("f", "a", "all"), ("f", "a", "any")
        self.refused([row, row], 1)
        self.refused([row, other, row], 2)
        self.refused([row, other, other, None], 2)

    def test_too_many_rows(self):
        rows = [(name, its, ends) for name in ("f", "g") for its in ("a", "b") for ends in ("all", "first", "any")]
        self.taken(rows[:8])
        self.refused(rows[:9], 8)
        self.refused(rows, 8)
        self.refused([*rows[:8], None], 8)
        self.refused([*rows[:4], None, *rows[4:]], 4)

    def test_values_that_are_no_list(self):
        for sights in [None, True, False, 0, 3, "", "abc"]:
            self.refused(sights, 0)


class TestNames(unittest.TestCase):
    def setUp(self):
        self.chain = Plan(WORLD, [("c", None, ALL), ("a", "c", ALL), ("b", "a", ALL)])
        self.fork = Plan(WORLD, [("c", None, ALL), ("a", "c", ALL), ("b", "c", ALL)])
        self.free = Plan(WORLD, [("c", None, ALL), ("a", None, ALL), ("b", "a", ALL)])

    def test_names(self):
        self.assertEqual(self.chain.names(), ["c", "a", "b"])
        self.assertEqual(Plan(WORLD, [GOOD]).names(), ["a"])

    def test_roots(self):
        self.assertEqual([self.chain.roots(name) for name in "cab"], [[], ["c"], ["a", "c"]])
        self.assertEqual([self.fork.roots(name) for name in "cab"], [[], ["c"], ["c"]])
        self.assertEqual([self.free.roots(name) for name in "cab"], [[], [], ["a"]])
        self.assertEqual(self.chain.roots(wave="b"), ["a", "c"])
        for name in ["d", "", "A", "north", "f", None, True, 0, (), [], ("a",), ["a"]]:
            with self.subTest(name=name), self.assertRaises(UnknownName) as caught:
                self.chain.roots(name)
            self.assertEqual(repr(caught.exception.name), repr(name))

    def test_least(self):
        rows = [
            (self.chain, ("a", "b", "c"), ("b",)), (self.chain, ("c", "a"), ("a",)), (self.chain, ("b", "c"), ("b",)),
            (self.chain, ("c",), ("c",)), (self.chain, (), ()), (self.chain, ("c", "c"), ("c",)),
            (self.chain, ("b", "a", "b", "a"), ("b",)), (self.fork, ("a", "b", "c"), ("a", "b")),
            (self.fork, ("b", "a"), ("a", "b")), (self.fork, ("c", "b", "b"), ("b",)),
            (self.free, ("c", "b", "a"), ("b", "c")),
            (self.free, ("c", "a"), ("a", "c")), (self.free, ("a", "b", "a"), ("b",)),
        ]
        for plan, wishes, wanted in rows:
            with self.subTest(wishes=wishes):
                self.assertEqual(plan.least(wishes), wanted)
                self.assertIsInstance(plan.least(wishes), tuple)
        self.assertEqual(self.chain.least(wishes=("c", "b")), ("b",))

    def test_least_keeps_names_that_are_no_waves(self):
        self.assertEqual(self.chain.least(("zoo", "b", "a", "zoo")), ("b", "zoo"))
        self.assertEqual(self.chain.least(("zoo",)), ("zoo",))

    def test_least_of_all_tuples(self):
        for plan in (self.chain, self.fork, self.free):
            for many in range(5):
                for wishes in itertools.product("abc", repeat=many):
                    roots = [root for name in wishes for root in plan.roots(name)]
                    wanted = tuple(sorted({name for name in wishes if name not in roots}))
                    self.assertEqual(plan.least(wishes), wanted)


class TestChance(unittest.TestCase):
    def web(self, people, *wishes):
        pairs = tuple(("f", (at,)) for at in range(len(people)))
        return (tuple(people), wishes or ((),) * len(people), pairs)

    def test_numbers_by_hand(self):
        plan = Plan(WORLD, [wave("a", None, (3, 2), (4,))])
        a = ("a",)
        rows = [
            ([(0, 0, 0)], (a,), Fraction(3, 5) * Fraction(1, 2)), ([(0, 0, 0)], ((),), Fraction(1)),
            ([(0, 4, 3), (0, 4, 1)], (a, a), Fraction(3, 5) * Fraction(1, 6)),
            ([(0, 4, 3), (0, 2, 1)], (a, a), Fraction(3, 10) * Fraction(1, 4)),
            ([(0, 4, 3), (0, 2, 1)], (a, ()), Fraction(3, 10)),
            ([(1, 3), (0, 2, 1)], (a, a), Fraction(4, 7) * Fraction(3, 10)),
            ([(1, 3), (1, 1), (1, 0), (1, 6)], (a, a, a, a), Fraction(1, 35)),
            ([(0, 0, 0), (0, 0, 1), (0, 0, 2)], (a, a, a), Fraction(0)),
            ([(0, 0, 0), (0, 1, 0), (0, 2, 0), (0, 3, 0)], (a, a, a, a), Fraction(0)),
        ]
        for people, wishes, wanted in rows:
            with self.subTest(people=people, wishes=wishes):
                self.assertEqual(plan.chance(self.web(people, *wishes)), pair(wanted))
        self.assertEqual(plan.chance(web=((), (), ())), (1, 1))

    def test_all_and_none_by_hand(self):
        plan = Plan(WORLD, [wave("a", None, (None, 0), (None,)), wave("b", None, (5, 4), (0,))])
        self.assertEqual(plan.chance(self.web([(0, 0, 0)], ("a",))), (0, 1))
        self.assertEqual(plan.chance(self.web([(1, 0), (1, 5)], ("a",), ("a",))), (1, 1))
        self.assertEqual(plan.chance(self.web([(0, 1, 1), (0, 1, 2)], ("b",), ("b",))), (1, 1))
        self.assertEqual(plan.chance(self.web([(1, 0)], ("b",))), (0, 1))

    def test_fractions_by_hand(self):
        plan = Plan(WORLD, [wave("a", None, ((2, 3), (1, 4)), ((1, 5),))])
        a = ("a",)
        self.assertEqual(plan.chance(self.web([(0, 0, 0)], a)), (1, 6))
        self.assertEqual(plan.chance(self.web([(0, 0, 0), (0, 0, 1)], a, a)), (1, 24))
        self.assertEqual(plan.chance(self.web([(0, 0, 0), (0, 1, 1)], a, a)), (1, 36))
        self.assertEqual(plan.chance(self.web([(1, 0), (1, 1), (1, 2)], a, a, a)), (1, 125))

    def test_roots_by_hand(self):
        plan = Plan(WORLD,
                    [wave("a", None, (4, 3), (5,)), wave("b", "a", (2, 1), (2,)), wave("c", "a", (None, 3), ((1, 2),))])
        one = Fraction(4, 5) * Fraction(3, 4)
        rows = [
            ((("a",),), one), ((("b",),), one * Fraction(2, 4) * Fraction(1, 3)), ((("a", "b"),), one * Fraction(1, 6)),
            ((("c",),), one), ((("b", "c"),), one * Fraction(1, 6)), ((("a", "b", "c"),), one * Fraction(1, 6)),
        ]
        for wishes, wanted in rows:
            self.assertEqual(plan.chance(self.web([(0, 3, 2)], *wishes)), pair(wanted))
        web = self.web([(1, 0), (1, 1)], ("b",), ("c",))
        self.assertEqual(plan.chance(web), pair(Fraction(20, 42) * Fraction(2, 5) * Fraction(1, 2)))

    def test_great_worlds(self):
        world = World.plain(MOST, MOST)
        plan = Plan(world, [("a", None, ((10, 7),)), ("b", "a", ((None, (1, 3)),))])
        web = (((0, 5, 6), (0, 5, MOST - 1)), (("a",), ("b",)), ())
        wanted = Fraction(10, MOST) * Fraction(42, MOST * (MOST - 1)) / 3
        self.assertEqual(plan.chance(web), pair(wanted))

    def test_against_all_drawings(self):
        source = random.Random(41)
        worlds = [World(parts, TRAITS) for parts in ([("a", (3,))], [("a", (2, 2))], [("a", (1, 2)), ("b", (2,))],
                                                     [("a", (2, 1, 2))])]
        checked = 0
        while checked < 120:
            plan = random_plan(source, source.choice(worlds))
            drawings = all_drawings(plan)
            if len(drawings) > 600:
                continue
            checked += 1
            self.assertEqual(sum(chance for chance, _ in drawings), 1)
            for _ in range(4):
                web = random_web(source, plan.world, tuple(sorted(plan.names())))
                wanted = Fraction(0)
                for chance, waves in drawings:
                    if all(person in waves[name] for person, names in zip(web[0], web[1]) for name in names):
                        wanted += chance
                self.assertEqual(plan.chance(web), pair(wanted), (plan.waves(), web))

    def test_values_that_are_no_web(self):
        plan = Plan(WORLD, [GOOD, ("b", "a", ALL)])
        person = (0, 4, 3)
        webs = [
            *PLAIN_VALUES, ((person,), (("c",),), ()), ((person,), (("a", "c"),), ()), ((person,), (("b", "a"),), ()),
            ((person,), ((),), ()), (((0, 5, 0),), (("a",),), ()), ((person, person), (("a",), ("a",)), ()),
            ((person,), (("a",),), (("k", (0,)),)), [(person,), (("a",),), ()], ((person,), (("a", "a"),), ()),
        ]
        for web in webs:
            with self.subTest(web=web), self.assertRaises(InvalidWeb) as caught:
                plan.chance(web)
            self.assertEqual(repr(caught.exception.given), repr(web))
        self.assertEqual(plan.chance(((person,), (("a", "b"),), ())), (3, 10))


class TestPlan(unittest.TestCase):
    def test_lists_may_be_changed_behind_it(self):
        waves, sights = [GOOD, ("b", "a", ALL)], [("f", "a", "all")]
        plan = Plan(WORLD, waves, sights)
        self.assertEqual((waves, sights), ([GOOD, ("b", "a", ALL)], [("f", "a", "all")]))
        waves.clear()
        sights.append(None)
        for rows in (plan.waves(), plan.sights(), plan.names(), plan.roots("b")):
            rows.append("x")
        self.assertEqual(plan.waves(), [GOOD, ("b", "a", ALL)])
        self.assertEqual(plan.sights(), [("f", "a", "all")])
        self.assertEqual((plan.names(), plan.roots("b"), len(plan)), (["a", "b"], ["a"], 2))
        for one, other in [(plan.waves(), plan.waves()), (plan.sights(), plan.sights()), (plan.names(), plan.names())]:
            self.assertIsNot(one, other)

    def test_rows_are_tuples(self):
        plan = Plan(WORLD, (GOOD, ("b", "a", ALL)), (("f", "a", "all"),))
        self.assertEqual((plan.waves(), plan.sights()), ([GOOD, ("b", "a", ALL)], [("f", "a", "all")]))
        for row in [*plan.waves(), *plan.sights()]:
            self.assertIsInstance(row, tuple)
        self.assertIs(plan.world, WORLD)

    def test_equality(self):
        waves, sights = [GOOD, ("b", None, ALL)], [("f", "a", "all"), ("g", "a", "all")]
        plan = Plan(WORLD, waves, sights)
        self.assertTrue(plan == Plan(World(PARTS, TRAITS), tuple(waves), tuple(sights)))
        self.assertFalse(plan != Plan(sights=sights, waves=waves, world=WORLD))
        others = [
            Plan(WORLD, waves), Plan(WORLD, waves, sights[:1]), Plan(WORLD, waves, sights[::-1]),
            Plan(WORLD, waves[::-1], sights), Plan(WORLD, waves[:1], sights),
            Plan(World(PARTS, TRAITS[:2]), waves, sights),
            Plan(WORLD, [GOOD, ("b", "a", ALL)], sights), Plan(WORLD, [GOOD, ("c", None, ALL)], sights),
            Plan(WORLD, [("a", None, ((3, 2), ((1, 3),))), ("b", None, ALL)], sights),
        ]
        for other in others:
            self.assertFalse(plan == other)
            self.assertTrue(plan != other)
        for value in [*PLAIN_VALUES, waves, repr(plan), WORLD]:
            self.assertFalse(plan == value)
            self.assertFalse(value == plan)

    def test_len_and_repr(self):
        for many in (1, 2, 3):
            plan = Plan(WORLD, [GOOD, ("b", "a", ALL), ("c", None, ALL)][:many])
            self.assertEqual(len(plan), many)
            self.assertEqual(repr(plan), f"Plan({many} waves)")


if __name__ == "__main__":
    unittest.main()
