"""Tests of fewtell.webs: values near a web, standard webs, seatings and texts."""

import itertools
import random
import unittest

from fewtell.errors import InvalidWeb
from fewtell.webs import is_web, seatings, standard, web_entries, web_text
from fewtell.worlds import World
from tests.by_hand import random_web, renamed

TRAITS = [
    ("f", 1, False, False), ("g", 2, False, False), ("even", 2, False, True), ("flag", 1, True, False),
    ("mark", 2, True, True), ("three", 3, False, True),
]
WORLD = World([("north", (3, 2)), ("south", (4,)), ("sea", (2, 2, 5))], TRAITS)
MOST = 10 ** 30
A, B, C, D, E = (0, 0, 1), (0, 2, 0), (1, 3), (2, 1, 0, 4), (0, 0, 0)
EMPTY = ((), (), ())
PLAIN_VALUES = [None, True, False, 0, 1, -2, "", "f", "fg", (), [], ((),), [[]], (None, None), (None, None, None)]


def ends_of(many):
    return tuple(("f", (at,)) for at in range(many))


class TestIsWeb(unittest.TestCase):
    def taken(self, web, waves=()):
        with self.subTest(web=web, waves=waves):
            self.assertIs(is_web(WORLD, web, waves=waves), True)
            standard(WORLD, web)
            seatings(WORLD, web)

    def refused(self, web, waves=("a", "b")):
        with self.subTest(web=web):
            self.assertIs(is_web(WORLD, web, waves=waves), False)
            for call in (standard, seatings):
                with self.assertRaises(InvalidWeb) as caught:
                    call(WORLD, web)
                self.assertEqual(repr(caught.exception.given), repr(web))
                self.assertEqual(caught.exception.code, "InvalidWeb")

    def test_webs(self):
        self.taken(EMPTY)
        self.taken(((A,), ((),), (("f", (0,)),)))
        self.taken(((A,), ((),), (("f", (0,)), ("f", (0,)), ("f", (0,)))))
        self.taken(((B, A), ((), ()), (("even", (0, 1)), ("even", (0, 1)), ("g", (1, 0)))))
        self.taken(((D, C, B, A), ((),) * 4, (("f", (3,)), ("three", (0, 1, 2)))))
        self.taken(((A,), ((),), (("three", (0, 0, 0)),)))
        self.taken(((A, B), ((), ()), (("flag", (0,)), ("flag", (1,)), ("mark", (0, 1)))))
        self.taken(((A,), (("a",),), ()), ("a",))
        self.taken(((A, B), (("a", "b"), ()), (("f", (1,)),)), ("b", "a", "b"))
        self.taken(((A, B), (("b",), ("a",)), ()), ("c", "b", "a"))
        self.taken(((A,), ((),), tuple(("f", (0,)) for _ in range(200))))

    def test_by_name(self):
        self.assertIs(is_web(waves=("a",), value=((A,), (("a",),), ()), world=WORLD), True)
        self.assertIs(is_web(WORLD, EMPTY), True)
        with self.assertRaises(TypeError):
            is_web(WORLD, EMPTY, ())
        self.assertEqual(standard(web=EMPTY, world=WORLD), EMPTY)
        self.assertEqual(seatings(web=EMPTY, world=WORLD), 1)

    def test_values_of_other_kinds(self):
        self.refused(None)
        for value in PLAIN_VALUES:
            good = repr(value)
            webs = [
                value,
                *([(value, (), ()), ((), value, ()), ((), (), value)] if good != "()" else []),
                *([((A,), value, (("f", (0,)),))] if good != "((),)" else []),
                ((A,), ((),), value),
                ((A,), ((),), (("f", (0,)), value)), ((A,), ((),), (value, ("f", (0,)))),
                ((A, value), ((), ()), (("f", (0,)), ("f", (1,)))), ((A,), ((),), (("f", value),)),
                *([((A,), (value,), (("f", (0,)),))] if good != "()" else []),
                *([((A,), ((),), (("f", (value,)),))] if good != "0" else []),
                *([((A,), ((),), ((value, (0,)),))] if good != "'f'" else []),
            ]
            for web in webs:
                self.refused(web)

    def test_lists_and_other_numbers_of_items(self):
        self.refused([(), (), ()])
        self.refused(([], (), ()))
        self.refused(((), [], ()))
        self.refused(((), (), []))
        self.refused(EMPTY[:2])
        self.refused((*EMPTY, ()))
        self.refused(((A,), ([],), (("f", (0,)),)))
        self.refused(((A,), (["a"],), (("f", (0,)),)))
        self.refused((([0, 0, 1],), ((),), (("f", (0,)),)))
        self.refused(((A,), ((),), (["f", (0,)],)))
        self.refused(((A,), ((),), (("f", [0]),)))
        self.refused(((A,), ((),), [("f", (0,))]))
        self.refused(((A,), ((),), (("f", (0,), 1),)))
        self.refused((A, (), ()))

    def test_people(self):
        for value in [(0, 0), (0,), (0, 3, 0), (0, 0, 2), (1, 4), (3, 0), (-1, 0), (0, 0, True), (False, 0, 1),
                      (2, 0, 0, 5), (1, 0, 0), "a", (0, 0, 1, 0)]:
            self.refused(((value,), ((),), (("f", (0,)),)))
        self.refused(((A, A), ((), ()), ends_of(2)))
        self.refused(((A, B, A), ((), (), ()), ends_of(3)))
        self.taken(((A, B, C, D), ((),) * 4, ends_of(4)))
        self.refused(((A, B, C, D, E), ((),) * 5, ends_of(5)))
        self.refused(((A, B, C, D, E), (("a",),) * 5, ()))

    def test_people_that_are_not_touched(self):
        self.refused(((A,), ((),), ()))
        self.refused(((A, B), ((), ()), (("f", (0,)),)))
        self.refused(((A, B), ((), ("a",)), ()))
        self.refused(((A, B, C), ((), (), ()), (("even", (0, 2)),)))
        self.taken(((A, B, C), ((), ("a",), ()), (("even", (0, 2)),)), ("a",))

    def test_wishes(self):
        entries = (("f", (0,)),)
        for wishes in [("b", "a"), ("a", "a"), ("a", "b", "b"), ("",), ("A",), ("a1",), (None,), (True,), (1,),
                       (("a",),), ("abcdefghi",), "a", "ab", ("a", None), (["a"],)]:
            self.refused(((A,), (wishes,), entries))
        self.refused(((A,), (), entries))
        self.refused(((A,), ((), ()), entries))
        self.refused(((), ((),), ()))

    def test_names_of_waves(self):
        web = ((A,), (("a", "c"),), ())
        for waves in [(), ("a",), ("c",), ("a", "b"), ("ac",), ("ca", "a")]:
            self.assertIs(is_web(WORLD, web, waves=waves), False)
        for waves in [("a", "c"), ("c", "a"), ("c", "a", "c"), ("a", "b", "c")]:
            self.assertIs(is_web(WORLD, web, waves=waves), True)
        self.assertIs(is_web(WORLD, web), False)
        # There any names may be wished.
        self.assertEqual(standard(WORLD, web), (((0, 0, 0),), (("a", "c"),), ()))
        self.assertEqual(seatings(WORLD, web), 6)

    def test_positions(self):
        for positions in [(1,), (-1,), (0, 0), (), (True,), (False,), ("0",), (None,), ((0,),), [0], 0, (MOST,)]:
            self.refused(((A,), ((),), (("f", positions),)))
            self.refused(((A,), ((),), (("f", (0,)), ("flag", positions))))
        for positions in [(0, 2), (2, 0), (-1, 0), (0,), (0, 1, 1), (0, True), (1, None)]:
            self.refused(((A, B), ((), ()), (("f", (0,)), ("f", (1,)), ("g", positions))))

    def test_unknown_traits(self):
        for name in ["k", "", "F", "north", None, True, 0, ("f",), ["f"]]:
            self.refused(((A,), ((),), ((name, (0,)),)))
            self.refused(((A,), ((),), (("f", (0,)), (name, (0,)))))

    def test_even_positions(self):
        self.taken(((A, B), ((), ()), (("even", (0, 1)), ("even", (1, 1)))))
        self.refused(((A, B), ((), ()), (("even", (1, 0)),)))
        self.refused(((A, B), ((), ()), (("mark", (1, 0)),)))
        people, wishes = (A, B, C), ((), (), ())
        for positions in itertools.permutations(range(3)):
            if positions != (0, 1, 2):
                self.refused((people, wishes, (("three", positions),)))
        self.taken((people, wishes, (("f", (2,)), ("three", (0, 1, 1)))))
        self.refused((people, wishes, (("f", (2,)), ("three", (1, 0, 1)))))
        self.taken((people, wishes, (("g", (1, 0)), ("g", (2, 1)))))

    def test_entries_that_are_not_ascending(self):
        self.refused(((A, B), ((), ()), (("f", (1,)), ("f", (0,)))))
        self.refused(((A, B), ((), ()), (("g", (0, 1)), ("f", (0,)))))
        self.refused(((A, B), ((), ()), (("g", (1, 0)), ("g", (0, 1)))))
        self.refused(((A, B), ((), ()), (("f", (0,)), ("f", (1,)), ("f", (0,)))))

    def test_flags_that_stand_twice(self):
        self.refused(((A,), ((),), (("flag", (0,)), ("flag", (0,)))))
        self.refused(((A, B), ((), ()), (("mark", (0, 1)), ("mark", (0, 1)))))
        self.refused(((A, B), ((), ()), (("f", (0,)), ("f", (0,)), ("flag", (1,)), ("flag", (1,)))))
        self.taken(((A, B), ((), ()), (("f", (0,)), ("f", (0,)), ("flag", (0,)), ("flag", (1,)))))


def renumbered(people):
    """By the words of [8]: under each node, in the order in which the people first come."""
    found = []
    for person in people:
        node = person[:1]
        for level in range(1, len(person)):
            come = []
            for other in people:
                if other[:level] == person[:level] and other[level] not in come:
                    come.append(other[level])
            node += (come.index(person[level]),)
        found.append(node)
    return tuple(found)


def least(world, web):
    """The standard web by the words of [8], from all orders of the people."""
    evens = [name for name, _, _, is_even in world.traits() if is_even]
    found = []
    for order in itertools.permutations(range(len(web[0]))):
        entries = []
        for name, positions in web[2]:
            places = tuple(order.index(at) for at in positions)
            entries.append((name, tuple(sorted(places)) if name in evens else places))
        people = renumbered([web[0][at] for at in order])
        found.append((people, tuple(web[1][at] for at in order), tuple(sorted(entries))))
    return min(found)


class TestStandard(unittest.TestCase):
    def test_by_hand(self):
        rows = [
            (EMPTY, EMPTY),
            (((A,), ((),), (("f", (0,)),)), (((0, 0, 0),), ((),), (("f", (0,)),))),
            (((C, A), ((), ()), (("g", (0, 1)),)), (((0, 0, 0), (1, 0)), ((), ()), (("g", (1, 0)),))),
            (((C, A), ((), ()), (("even", (0, 1)),)), (((0, 0, 0), (1, 0)), ((), ()), (("even", (0, 1)),))),
            (((B, A), ((), ()), (("g", (0, 1)),)), (((0, 0, 0), (0, 1, 0)), ((), ()), (("g", (0, 1)),))),
            (((B, A), ((), ()), (("g", (1, 0)),)), (((0, 0, 0), (0, 1, 0)), ((), ()), (("g", (0, 1)),))),
            (((A, B), ((), ("a",)), (("f", (0,)),)), (((0, 0, 0), (0, 1, 0)), ((), ("a",)), (("f", (0,)),))),
            (((A, B), (("a",), ()), (("f", (1,)),)), (((0, 0, 0), (0, 1, 0)), ((), ("a",)), (("f", (0,)),))),
            (((A, B), (("a",), ("a",)), (("f", (1,)),)),
             (((0, 0, 0), (0, 1, 0)), (("a",), ("a",)), (("f", (0,)),))),
            (((A, B, E), ((), (), ()), (("f", (0,)), ("f", (1,)), ("f", (1,)), ("f", (2,)))),
             (((0, 0, 0), (0, 0, 1), (0, 1, 0)), ((), (), ()), (("f", (0,)), ("f", (1,)), ("f", (2,)), ("f", (2,))))),
            (((A, B, E), ((), (), ()), (("f", (0,)), ("f", (0,)), ("f", (1,)), ("f", (2,)))),
             (((0, 0, 0), (0, 0, 1), (0, 1, 0)), ((), (), ()), (("f", (0,)), ("f", (0,)), ("f", (1,)), ("f", (2,))))),
            (((D, (2, 0, 0, 3), (2, 1, 0, 3)), ((), (), ()), (("f", (0,)), ("f", (1,)), ("f", (2,)))),
             (((2, 0, 0, 0), (2, 0, 0, 1), (2, 1, 0, 0)), ((), (), ()), (("f", (0,)), ("f", (1,)), ("f", (2,))))),
        ]
        for web, wanted in rows:
            with self.subTest(web=web):
                self.assertEqual(standard(WORLD, web), wanted)
                self.assertEqual(standard(WORLD, wanted), wanted)

    def test_people_come_before_wishes_and_wishes_before_entries(self):
        world = World.plain(2, 3)
        entries = (("f", (0,)), ("f", (1,)), ("f", (2,)), ("f", (2,)))
        web = (((0, 1, 2), (0, 0, 1), (0, 1, 0)), (("a",), (), ()), entries)
        entries = (("f", (0,)), ("f", (0,)), ("f", (1,)), ("f", (2,)))
        wanted = (((0, 0, 0), (0, 0, 1), (0, 1, 0)), ((), ("a",), ()), entries)
        self.assertEqual(standard(world, web), wanted)

    def test_all_orders_and_names(self):
        source = random.Random(3)
        worlds = [WORLD, World.plain(5), World.plain(2, 3), World([("a", (2, 2, 2)), ("b", (2, 2, 2))], TRAITS)]
        for number in range(300):
            world = worlds[number % 4]
            web = random_web(source, world)
            found = standard(world, web)
            self.assertEqual(found, least(world, web))
            self.assertIs(is_web(world, found, waves=("a", "b")), True)
            for _ in range(5):
                other = renamed(source, world, web)
                self.assertEqual(standard(world, other), found)
                self.assertEqual(seatings(world, other), seatings(world, web))

    def test_webs_that_differ(self):
        """Small webs are equal in their standard form only if one is the other one renamed."""
        world = World([("a", (2, 2)), ("b", (2,))], [("f", 1, False, False), ("g", 2, False, False)])
        people = list(world.all_people())
        pairs = [("f", (0,)), ("f", (1,)), ("g", (0, 0)), ("g", (0, 1)), ("g", (1, 0))]
        table = {}
        for chosen in itertools.permutations(people, 2):
            for entries in itertools.combinations_with_replacement(pairs, 2):
                web = (chosen, ((), ()), entries)
                if is_web(world, web):
                    table.setdefault(standard(world, web), []).append(web)
        for found, webs in table.items():
            numbers = {seatings(world, web) for web in webs}
            self.assertEqual(numbers, {seatings(world, found)})
        texts = sorted(web_text(web) for web in table)
        self.assertEqual(len(texts), len(set(texts)))

    def test_great_worlds(self):
        world = World.plain(MOST, 7, MOST)
        web = (((0, MOST - 1, 6, 3), (0, 5, 0, MOST - 1)), ((), ()), (("f", (0,)), ("f", (1,)), ("f", (1,))))
        wanted = (((0, 0, 0, 0), (0, 1, 0, 0)), ((), ()), (("f", (0,)), ("f", (0,)), ("f", (1,))))
        self.assertEqual(standard(world, web), wanted)


class TestSeatings(unittest.TestCase):
    def count(self, world, people):
        def meets(rows):
            return [world.meet(one, other) for one, other in itertools.combinations(rows, 2)]
        wanted, parts = meets(people), [person[0] for person in people]
        many = 0
        for seats in itertools.permutations(list(world.all_people()), len(people)):
            if [seat[0] for seat in seats] == parts and meets(seats) == wanted:
                many += 1
        return many

    def test_small_worlds(self):
        worlds = [
            World.plain(5), World.plain(3, 2), World.plain(2, 2, 2), World([("a", (2, 2)), ("b", (3,))], TRAITS),
            World([("a", (1,)), ("b", (1, 3)), ("c", (2, 1))], TRAITS),
        ]
        for world in worlds:
            all_people = list(world.all_people())
            for many in range(4):
                for people in itertools.combinations(all_people, many):
                    web = (people, ((),) * many, ends_of(many))
                    with self.subTest(web=web):
                        self.assertEqual(seatings(world, web), self.count(world, people))

    def test_four_people(self):
        world = World.plain(3, 2)
        for people in itertools.combinations(list(world.all_people()), 4):
            self.assertEqual(seatings(world, (people, ((),) * 4, ends_of(4))), self.count(world, people))

    def test_neither_wishes_nor_entries_count(self):
        world = World([("a", (3, 2))], TRAITS)
        self.assertEqual(seatings(world, (((0, 0, 0),), (("a",),), ())), 6)
        self.assertEqual(seatings(world, (((0, 0, 0), (0, 0, 1)), ((), ()), (("even", (0, 1)),))), 6)
        self.assertEqual(seatings(world, (((0, 0, 0), (0, 1, 1)), ((), ()), (("even", (0, 1)),) * 5)), 24)

    def test_great_worlds(self):
        world = World.plain(MOST)
        for many in range(5):
            people = tuple((0, MOST - 1 - number) for number in range(many))
            wanted = 1
            for number in range(many):
                wanted *= MOST - number
            self.assertEqual(seatings(world, (people, ((),) * many, ends_of(many))), wanted)
        world = World.plain(MOST, 9, MOST)
        one = (0, 4, 5, 6)
        for other, wanted in [((0, 4, 5, 7), MOST * 9 * MOST * (MOST - 1)), ((0, 4, 6, 6), MOST * 9 * 8 * MOST * MOST),
                              ((0, 5, 5, 6), MOST * (MOST - 1) * 81 * MOST * MOST)]:
            self.assertEqual(seatings(world, ((one, other), ((), ()), ends_of(2))), wanted)

    def test_empty_web(self):
        self.assertEqual(seatings(WORLD, EMPTY), 1)


class TestTexts(unittest.TestCase):
    def test_entries(self):
        web = (((0, 0, 0), (0, 0, 1)), ((), ()), (("f", (0,)), ("f", (0,)), ("f", (1,)), ("g", (0, 1)), ("g", (0, 1))))
        self.assertEqual(web_entries(web), [("f", (0,)), ("f", (1,)), ("g", (0, 1))])
        self.assertEqual(web_entries(web=EMPTY), [])
        self.assertEqual(web_entries((((0, 0),), (("a",),), ())), [])
        web_entries(web).clear()
        self.assertEqual(len(web_entries(web)), 3)

    def test_texts(self):
        rows = [
            (EMPTY, "1"),
            ((((0, 0, 0), (0, 0, 1)), ((), ("a", "b")), (("f", (0,)), ("f", (0,)), ("g", (0, 1)))),
             "f(0)^2*g(0,1) @ 0.0.0 0.0.1:a,b"),
            ((((0, 0),), (("a",),), ()), "1 @ 0.0:a"),
            ((((0, 0), (0, 1)), (("a",), ("ab", "b")), ()), "1 @ 0.0:a 0.1:ab,b"),
            ((((0, 0),), ((),), (("f", (0,)),)), "f(0) @ 0.0"),
            ((((0, 17), (2, 1, 30)), ((), ()), (("f", (0,)),) * 12 + (("h", (1, 0, 1)),)),
             "f(0)^12*h(1,0,1) @ 0.17 2.1.30"),
        ]
        for web, text in rows:
            with self.subTest(web=web):
                self.assertEqual(web_text(web), text)
                self.assertEqual(web_text(web=web), text)


if __name__ == "__main__":
    unittest.main()
