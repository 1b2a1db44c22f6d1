"""Tests of fewtell.drawings: what can be drawn, with which chance, what is seen, and the numbers of forms."""

import itertools
import random
import unittest
from fractions import Fraction

from fewtell.drawings import Drawing, all_drawings
from fewtell.errors import InvalidDrawing, InvalidEntry, InvalidPerson, InvalidWeb, TooMany, UnknownName, UnlikeWorlds
from fewtell.forms import Form, constant, form_of
from fewtell.guesses import guess, is_right, mean, mean_given, plan_form
from fewtell.plans import Plan
from fewtell.populations import Population
from fewtell.possible import estimate_form, seen_web, sight
from fewtell.single import is_steady
from fewtell.texts import read_program
from fewtell.worlds import World
from tests import by_hand
from tests.by_hand import SMALL, TRAITS, form_number, pair, random_plan, random_population, random_target, random_web
from tests.by_hand import some_plans

MOST = 10 ** 30
WORLD = World([("a", (4, 3)), ("b", (5,))], TRAITS)
# Houses by number, and people out of them; b out of a; c by chance.
WAVES = [("a", None, ((2, 2), (3,))), ("b", "a", ((None, 1), (2,))), ("c", None, (((1, 2), None), (0,)))]
PLAN = Plan(WORLD, WAVES, [("f", "a", "all"), ("g", "b", "first"), ("even", "a", "any"), ("even", "c", "all")])
ROW_A = [(0, 1), (0, 3), (0, 1, 0), (0, 1, 2), (0, 3, 1), (0, 3, 2), (1, 0), (1, 2), (1, 4)]
ROW_B = [(0, 1), (0, 3), (0, 1, 2), (0, 3, 1), (1, 0), (1, 4)]
ROW_C = [(0, 3), (0, 3, 0), (0, 3, 1), (0, 3, 2)]
ROWS = [ROW_A, ROW_B, ROW_C]


def rows_of(plan, waves):
    """The rows of a drawing that was found by hand."""
    return [sorted(node for node in waves[name] if len(node) > 1) for name in plan.names()]


def waves_of(plan, drawing):
    """The nodes in each wave of a drawing."""
    return {name: drawing.nodes(name) for name in plan.names()}


class TestDrawing(unittest.TestCase):
    def test_nodes_and_people(self):
        source = random.Random(371)
        for _ in range(5):
            rows = [source.sample(row, len(row)) for row in ROWS]
            drawing = Drawing(PLAN, rows)
            self.assertEqual([drawing.nodes(name) for name in "abc"], [sorted(row) for row in ROWS])
            self.assertEqual(drawing.people("b"), [(0, 1, 2), (0, 3, 1), (1, 0), (1, 4)])
            self.assertEqual(drawing.people("c"), ROW_C[1:])
            self.assertEqual(drawing.plan, PLAN)
            self.assertEqual(drawing, Drawing(PLAN, ROWS))
        self.assertEqual(Drawing.MOST, 24)
        self.assertEqual(Drawing(plan=PLAN, rows=tuple(tuple(row) for row in ROWS)), drawing)

    def test_lists_that_were_passed_or_told_are_changed(self):
        rows = [list(row) for row in ROWS]
        drawing = Drawing(PLAN, rows)
        rows[0].clear()
        rows.pop()
        drawing.nodes("a").clear()
        drawing.people("a").clear()
        self.assertEqual(drawing, Drawing(PLAN, ROWS))
        self.assertEqual(len(drawing.people("a")), 7)

    def test_has(self):
        drawing = Drawing(PLAN, ROWS)
        for person in WORLD.all_people():
            for name, row in zip("abc", ROWS):
                self.assertIs(drawing.has(name, person), person in row)
        for wave in (None, True, 0, "", "d", "A", ["a"], ("a",), []):
            for call in (drawing.nodes, drawing.people, lambda name: drawing.has(name, None)):
                with self.assertRaises(UnknownName) as caught:
                    call(wave)
                self.assertEqual(caught.exception.name, wave)
        for person in (None, True, 0, "", (), (0,), (0, 1), (0, 1, 3), (1, 5), [0, 1, 0], (0, 1, True), (0, 1, 0, 0)):
            with self.assertRaises(InvalidPerson) as caught:
                drawing.has(wave="a", person=person)
            self.assertEqual(caught.exception.given, person)

    def test_equality_and_repr(self):
        drawing = Drawing(PLAN, ROWS)
        self.assertEqual(repr(drawing), "Drawing(8 people)")
        self.assertEqual(repr(Drawing(Plan(WORLD, [("a", None, ((0, 2), (0,)))]), [[]])), "Drawing(0 people)")
        self.assertEqual(repr(Drawing(Plan(World.plain(1), [("a", None, ((None,),))]), [[(0, 0)]])), "Drawing(1 people)")
        moved = [ROW_A, ROW_B, []]
        self.assertNotEqual(drawing, Drawing(PLAN, moved))
        self.assertNotEqual(drawing, Drawing(Plan(WORLD, WAVES), ROWS))
        self.assertEqual(drawing, Drawing(Plan(WORLD, list(WAVES), PLAN.sights()), ROWS))
        for value in (None, PLAN, ROWS, "Drawing(8 people)"):
            self.assertNotEqual(drawing, value)

    def refused(self, rows, index, plan=PLAN):
        with self.subTest(rows=rows), self.assertRaises(InvalidDrawing) as caught:
            Drawing(plan, rows)
        self.assertEqual(caught.exception.index, index)

    def test_more_or_fewer_rows(self):
        for rows in (None, True, 3, "abc", "", [], [ROW_A], ROWS[:2], [*ROWS, []], [None], [*ROWS, *ROWS], ()):
            self.refused(rows, 3)

    def test_rows_that_are_no_lists_of_nodes(self):
        wrong = [
            None, True, 3, "", "ab", [None], [ROW_A], [*ROW_A, ROW_A[0]], [*ROW_A, (0,)], [*ROW_A, (2, 0)],
            [*ROW_A, (0, 4)], [*ROW_A, (0, 1, 3)], [*ROW_A, [0, 1, 1]], [*ROW_A, ()], [*ROW_A, (0, 1, 0, 0)],
            [*ROW_A[:-1], [1, 4]], [*ROW_A[:-1], (True, 4)], [*ROW_A[:-1], (1, "4")],
        ]
        for row in wrong:
            self.refused([row, ROW_B, ROW_C], 0)
            self.refused([row, None, None], 0)
            self.refused([ROW_A, row, None], 1)
            self.refused([ROW_A, ROW_B, row], 2)

    def test_rows_that_cannot_be_drawn(self):
        for at, rows in enumerate(ROWS):
            for node in rows:
                # Without a node there is one too few, or nodes below it are left alone; c loses none of a house.
                self.refused([[its for its in row if (row, its) != (rows, node)] for row in ROWS], at)
        self.refused([[*ROW_A, (0, 0), (0, 0, 0), (0, 0, 1)], ROW_B, ROW_C], 0)
        self.refused([[*ROW_A, (1, 1)], ROW_B, ROW_C], 0)
        self.refused([[*ROW_A[:-1], (0, 0, 0)], ROW_B, ROW_C], 0)
        # A node of b that is not in a, and one of c that is below a node which is not drawn.
        self.refused([ROW_A, [*ROW_B[:-1], (1, 3)], ROW_C], 1)
        self.refused([ROW_A, ROW_B, [*ROW_C, (0, 1, 0)]], 2)
        self.refused([ROW_A, ROW_B, [*ROW_C, (1, 0)]], 2)
        self.refused([ROW_A, [], ROW_C], 1)
        # Later rows are looked at given the rows before: this b comes out of another a.
        other = [(0, 0) if node == (0, 1) else (0, 0, node[2]) if node[:2] == (0, 1) else node for node in ROW_A]
        self.refused([other, ROW_B, ROW_C], 1)

    def test_at_most_24_nodes(self):
        for most, size in [(24, 24), (24, MOST), (25, 25), (25, MOST)]:
            world = World.plain(size)
            for how in (most, (1, 2), None):
                if how is None and size == MOST:
                    continue
                plan = Plan(world, [("a", None, ((how,),))])
                row = [(0, at) for at in range(most)]
                if most == 24:
                    self.assertEqual(len(Drawing(plan, [row]).nodes("a")), 24)
                else:
                    self.refused([row], 0, plan)
        # Nodes that are no people count, too.
        plan = Plan(World.plain(12, 1), [("a", None, ((None, 1),))])
        houses = [(0, at) for at in range(12)]
        self.assertEqual(len(Drawing(plan, [[*houses, *[(*node, 0) for node in houses]]]).people("a")), 12)
        plan = Plan(World.plain(13, 1), [("a", None, (((1, 2), 1),))])
        houses = [(0, at) for at in range(13)]
        self.refused([[*houses, *[(*node, 0) for node in houses]]], 0, plan)

    def test_what_can_be_drawn_in_small_worlds(self):
        source = random.Random(372)
        for plan, drawings in some_plans(source, 25):
            known = [rows_of(plan, waves) for _, waves in drawings]
            nodes = sorted({node[:level] for node in plan.world.all_people() for level in range(2, len(node) + 1)})
            for _ in range(40):
                rows = [list(row) for row in source.choice(known)]
                row, node = source.choice(rows), source.choice(nodes)
                if node in row:
                    row.remove(node)
                else:
                    row.append(node)
                if [sorted(row) for row in rows] in known:
                    Drawing(plan, rows)
                else:
                    with self.assertRaises(InvalidDrawing):
                        Drawing(plan, rows)


class TestChance(unittest.TestCase):
    def test_small_worlds(self):
        source = random.Random(373)
        for plan, drawings in some_plans(source, 40):
            for chance, waves in drawings:
                self.assertEqual(Drawing(plan, rows_of(plan, waves)).chance(), pair(chance))

    def test_the_chance_of_one(self):
        two = Fraction(1, 6) * Fraction(1, 3) ** 2 * Fraction(1, 10)
        two = two * Fraction(1, 2) ** 2 * Fraction(1, 3)
        self.assertEqual(Drawing(PLAN, ROWS).chance(), pair(two * Fraction(1, 16)))

    def test_large_worlds(self):
        world = World.plain(MOST, MOST)
        row = [(0, 5), (0, MOST - 1), (0, 5, 7), (0, 5, 8), (0, MOST - 1, 0), (0, MOST - 1, 1)]
        drawing = Drawing(Plan(world, [("a", None, ((2, 2),))]), [row])
        self.assertEqual(drawing.chance(), (1, (MOST * (MOST - 1) // 2) ** 3))
        world = World.plain(10 ** 5)
        for how in [(1, 2), (3, 10 ** 5), (10 ** 30 + 1, 10 ** 31 - 1)]:
            found = Drawing(Plan(world, [("a", None, ((how,),))]), [[(0, 3), (0, 7)]]).chance()
            # The numbers are too great for a common divisor to be found fast; so their remainders are compared.
            over, under = how
            for prime in (10 ** 9 + 7, 998244353):
                left = pow(over, 2, prime) * pow(under - over, 10 ** 5 - 2, prime) * found[1] % prime
                self.assertEqual(left, found[0] * pow(under, 10 ** 5, prime) % prime)
            self.assertTrue(found[0] % 2 == 1 or found[1] % 2 == 1)

    def test_fractions_with_shared_divisors(self):
        plan = Plan(World.plain(3, 4), [("a", None, (((4, 9), (3, 8)),)), ("b", "a", (((15, 16), (2, 3)),))])
        row = [(0, 0), (0, 2), (0, 0, 1), (0, 0, 2), (0, 2, 3)]
        wanted = Fraction(4, 9) ** 2 * Fraction(5, 9) * Fraction(3, 8) ** 3 * Fraction(5, 8) ** 5
        wanted = wanted * Fraction(15, 16) * Fraction(1, 16) * Fraction(2, 3) * Fraction(1, 3)
        self.assertEqual(Drawing(plan, [row, [(0, 0), (0, 0, 2)]]).chance(), pair(wanted))


class TestAllDrawings(unittest.TestCase):
    def test_small_worlds(self):
        source = random.Random(391)
        for plan, drawings in some_plans(source, 40, 300):
            found = list(all_drawings(plan))
            rows = [[drawing.nodes(name) for name in plan.names()] for drawing in found]
            self.assertEqual(rows, sorted(rows_of(plan, waves) for _, waves in drawings))
            self.assertEqual(sum(Fraction(*drawing.chance()) for drawing in found), 1)
            self.assertTrue(all(drawing.plan == plan for drawing in found))

    def test_the_order(self):
        plan = Plan(World.plain(3), [("a", None, (((1, 2),),)), ("b", "a", (((1, 2),),))])
        rows = [[drawing.nodes("a"), drawing.nodes("b")] for drawing in all_drawings(plan=plan)]
        self.assertEqual(rows[:5], [[[], []], [[(0, 0)], []], [[(0, 0)], [(0, 0)]], [[(0, 0), (0, 1)], []],
                                    [[(0, 0), (0, 1)], [(0, 0)]]])
        self.assertEqual(len(rows), 27)

    def test_just_300_and_more(self):
        for sizes, hows, many in [((300,), (1,), 300), ((25,), (2,), 300), ((25, MOST), (2, 0), 300), ((8,), ((1, 2),), 256),
                                  ((12, 5), (1, (1, 2)), 384), ((301,), (1,), 301), ((301,), (300,), 301), ((9,), ((1, 2),), 512),
                                  ((26,), (2,), 325), ((MOST,), (1,), MOST), ((MOST,), ((1, 2),), 0), ((25, 3), (2, 1), 2700)]:
            plan = Plan(World.plain(*sizes), [("a", None, (hows,))])
            with self.subTest(sizes=sizes, hows=hows):
                if 0 < many <= 300:
                    self.assertEqual(len(list(all_drawings(plan))), many)
                    continue
                with self.assertRaises(TooMany) as caught:
                    list(all_drawings(plan))
                self.assertEqual(caught.exception.most, 300)
        plan = Plan(World.plain(6), [("a", None, ((2,),)), ("b", None, ((3,),))])
        self.assertEqual(len(list(all_drawings(plan))), 300)
        for how, source in [((1, 2), "a"), (1, "b"), (1, None)]:
            more = Plan(World.plain(6), [*plan.waves(), ("c", source, ((how,),))])
            with self.assertRaises(TooMany):
                list(all_drawings(more))
        more = Plan(World.plain(6), [*plan.waves(), ("c", "b", ((None,),))])
        self.assertEqual(len(list(all_drawings(more))), 300)

    def test_more_than_24_nodes(self):
        for sizes, hows, many in [((24,), (None,), 1), ((25,), (None,), None), ((MOST,), (None,), None), ((MOST,), (0,), 1),
                                  ((12, 1), (None, None), 1), ((13, 1), (None, None), None), ((25,), (25,), None),
                                  ((8, 2), (None, 2), 1), ((8, 3), (None, 3), None), ((8, 2), ((1, 2), None), 256),
                                  ((8, 3), ((1, 2), None), None), ((1, 24), ((1, 2), None), None), ((1, 23), ((1, 2), None), 2),
                                  ((MOST,), (MOST,), None), ((MOST,), (MOST - 1,), None), ((MOST, 2), (MOST // 2, 0), None)]:
            plan = Plan(World.plain(*sizes), [("a", None, (hows,))])
            with self.subTest(sizes=sizes, hows=hows):
                if many is not None:
                    self.assertEqual(len(list(all_drawings(plan))), many)
                    continue
                with self.assertRaises(TooMany) as caught:
                    list(all_drawings(plan))
                self.assertEqual(caught.exception.most, 300)

    def test_errors_come_with_the_first_item(self):
        drawings = all_drawings(Plan(World.plain(26), [("a", None, ((2,),))]))
        with self.assertRaises(TooMany):
            next(drawings)


class TestValue(unittest.TestCase):
    def test_small_worlds(self):
        source = random.Random(421)
        for plan, _ in some_plans(source, 40):
            names = tuple(sorted(plan.names()))
            webs = [random_web(source, plan.world, names, 3) for _ in range(3)]
            form = Form(plan.world, [(web, source.choice([(1, 1), (-2, 3), (4, 1)])) for web in webs])
            population = random_population(source, plan.world, 6)
            drawings = list(all_drawings(plan))
            for drawing in source.sample(drawings, min(6, len(drawings))):
                wanted = form_number(form, population, waves_of(plan, drawing))
                self.assertEqual(drawing.value(form, population), pair(wanted))

    def test_products_and_sums_for_each_drawing(self):
        source = random.Random(422)
        for plan, _ in some_plans(source, 20):
            names = tuple(sorted(plan.names()))
            one, other = [Form(plan.world, [(random_web(source, plan.world, names, 2), (2, 3))]) for _ in range(2)]
            population = random_population(source, plan.world, 6)
            if one.degree + other.degree > 8:
                continue
            for drawing in list(all_drawings(plan))[:6]:
                numbers = [Fraction(*drawing.value(form, population)) for form in (one, other)]
                self.assertEqual(drawing.value(one * other, population), pair(numbers[0] * numbers[1]))
                self.assertEqual(drawing.value(one - other, population), pair(numbers[0] - numbers[1]))

    def test_large_worlds(self):
        world = World([("all", (MOST, 10))], TRAITS)
        plan = Plan(world, [("a", None, ((2, 3),)), ("b", "a", ((1, 2),))], [("f", "a", "all"), ("g", "b", "first")])
        homes = [(0, 7), (0, MOST - 1)]
        people = [(*home, at) for home in homes for at in (1, 4, 9)]
        drawing = Drawing(plan, [[*homes, *people], [homes[1], people[3], people[5]]])
        far = (0, 5, 5)
        rows = [(("f", (person,)), at + 1) for at, person in enumerate(people)] + [(("f", (far,)), 100)]
        rows = rows + [(("g", (people[3], far)), 7), (("g", (far, people[3])), 1000), (("g", (people[5], people[5])), 3)]
        population = Population(world, rows)
        for text, wanted in [
            ("sum(i: ([i@a] * f(i)))", 21), ("sum(i: ([i@b] * f(i)))", 10), ("sum(i: [i@a])", 6), ("sum(i: f(i))", 121),
            ("sum(i: sum(j: ([i@b] * g(i,j))))", 10), ("sum(i: sum(j: ([i@b] * [i~j:1] * g(i,j))))", 3),
            ("sum(i: sum(j: ([i@a] * [j@a] * [i~j:1] * f(i) * f(j))))", 6 ** 2 + 15 ** 2), ("sum(i: [i@a])^4", 6 ** 4),
            ("sum(i: sum(j: ([i@a] * [j@b] * f(i))))", 42), ("sum(i: 1)", 10 * MOST),
            ("sum(i: sum(j: ([i@a] * (1 + (-1 * [i~j:1])))))", 6 * 10 * (MOST - 1)),
        ]:
            self.assertEqual(drawing.value(plan_form(plan, read_program(text)), population), (wanted, 1), text)
        half = plan_form(plan, read_program("(1/3 * sum(i: ([i@a] * f(i))))"))
        self.assertEqual(drawing.value(form=half * 2, population=population), (14, 1))

    def test_only_what_is_seen_counts(self):
        source = random.Random(431)
        checked = 0
        while checked < 40:
            plan = random_plan(source, source.choice(SMALL))
            target = random_target(source, plan.world)
            if not plan.sights() or any(sight(plan, web) == (0, 1) for web, _ in target.terms()):
                continue
            if len(by_hand.all_drawings(plan)) > 300:
                continue
            checked += 1
            form = estimate_form(plan, target)
            drawing = source.choice(list(all_drawings(plan)))
            population = random_population(source, plan.world, 8)
            other = random_population(source, plan.world, 8)
            mixed = [row for row in population.rows() if drawing.sees(*row[0])]
            mixed = mixed + [row for row in other.rows() if not drawing.sees(*row[0])]
            self.assertEqual(drawing.value(form, population), drawing.value(form, Population(plan.world, mixed)))

    def test_the_mean_is_the_average_over_all_drawings(self):
        source = random.Random(451)
        for plan, _ in some_plans(source, 40):
            names = tuple(sorted(plan.names()))
            form = Form(plan.world, [(random_web(source, plan.world, names, 3), (3, 2)) for _ in range(2)])
            population = random_population(source, plan.world, 6)
            drawings = list(all_drawings(plan))
            values = [(Fraction(*drawing.chance()), Fraction(*drawing.value(form, population))) for drawing in drawings]
            self.assertEqual(mean(plan, form).value(population), pair(sum(chance * value for chance, value in values)))
            # The mean given a wave and its roots, drawing by drawing, and the mean of it.
            wave = source.choice(plan.names())
            given = mean_given(plan, form, wave)
            self.assertEqual(mean(plan, given), mean(plan, form))
            known = [wave, *plan.roots(wave)]
            groups = {}
            for drawing, (chance, value) in zip(drawings, values):
                key = tuple(tuple(drawing.nodes(name)) for name in known)
                groups.setdefault(key, []).append((chance, value, drawing))
            for rows in groups.values():
                whole = sum(chance for chance, _, _ in rows)
                average = sum(chance * value for chance, value, _ in rows) / whole
                for _, _, drawing in rows:
                    self.assertEqual(drawing.value(given, population), pair(average))

    def test_seen_seatings(self):
        source = random.Random(471)
        for plan, _ in some_plans(source, 40):
            web = random_web(source, plan.world, (), 2)
            population = random_population(source, plan.world, 8)
            form = seen_web(plan, web)
            drawings = list(all_drawings(plan))
            seats = source.choice(by_hand.all_seatings(plan.world, web[0]))
            entries = [(name, tuple(seats[at] for at in row)) for name, row in web[2]]
            chance = sum(Fraction(*drawing.chance()) for drawing in drawings
                         if all(drawing.sees(*entry) for entry in entries))
            self.assertEqual(sight(plan, web), pair(chance))
            for drawing in drawings[:5]:
                wanted = by_hand.seen_number(plan, web, population, waves_of(plan, drawing))
                self.assertEqual(drawing.value(form, population), pair(Fraction(wanted)))

    def test_errors_in_their_order(self):
        drawing = Drawing(PLAN, ROWS)
        other = World.plain(3)
        unknown = Form(WORLD, [((((0, 0, 0),), (("a", "x"),), ()), (1, 1)), ((((0, 0, 0),), (("d",),), ()), (1, 1))])
        none, foreign = Population(WORLD), Population(other)
        for form, population in [(Form(other), none), (Form(other), foreign), (unknown, foreign), (Form(WORLD), foreign)]:
            with self.assertRaises(UnlikeWorlds):
                drawing.value(form, population)
        with self.assertRaises(InvalidWeb) as caught:
            drawing.value(unknown, none)
        self.assertEqual(caught.exception.given, unknown.terms()[0][0])
        self.assertEqual(drawing.value(constant(WORLD, (5, 3)), none), (5, 3))
        self.assertEqual(drawing.value(Form(WORLD), none), (0, 1))


class TestSees(unittest.TestCase):
    def test_small_worlds(self):
        source = random.Random(432)
        for plan, _ in some_plans(source, 30):
            drawing = source.choice(list(all_drawings(plan)))
            people = list(plan.world.all_people())
            for name, ends, _, _ in TRAITS:
                for row in itertools.product(people, repeat=ends):
                    wanted = by_hand.is_seen(plan, waves_of(plan, drawing), name, row)
                    self.assertIs(drawing.sees(name, row), wanted)

    def test_ends(self):
        drawing = Drawing(PLAN, ROWS)
        one, two, out = (0, 1, 2), (0, 1, 0), (0, 0, 0)
        rows = [("f", (one,), True), ("f", (out,), False), ("g", (one, out), True), ("g", (two, one), False),
                ("even", (out, one), True), ("even", (one, out), True), ("even", (out, (0, 3, 0)), False),
                ("even", ((0, 3, 0), (0, 3, 0)), True), ("flag", (one,), False)]
        for trait, people, wanted in rows:
            self.assertIs(drawing.sees(trait=trait, people=people), wanted)

    def test_errors(self):
        drawing = Drawing(PLAN, ROWS)
        for trait in (None, True, "", "h", ["f"], ("f",)):
            with self.assertRaises(UnknownName) as caught:
                drawing.sees(trait, None)
            self.assertEqual(caught.exception.name, trait)
        for people in (None, True, "", (), (0, 0, 0), [(0, 0, 0)], ((0, 0, 0), (0, 0, 0)), ((0, 0),), ((0, 4, 0),)):
            with self.assertRaises(InvalidEntry) as caught:
                drawing.sees("f", people)
            self.assertEqual(caught.exception.given, people)


class TestBlindGuesses(unittest.TestCase):
    def test_only_one_in_steady_plans(self):
        # Two right guesses of a steady plan that look at no names have the same numbers for all drawings.
        world = World([("a", (3, 2)), ("b", (3,))], TRAITS)
        plan = Plan(world, [("a", None, ((2, 2), (2,))), ("b", "a", ((None, 1), (None,)))],
                    [("f", "b", "all"), ("even", "b", "all")])
        self.assertTrue(is_steady(plan))
        programs = [
            "sum(i: ([i@b] * f(i)))", "sum(i: ([i:a] * [i@b] * f(i)))", "sum(i: sum(j: ([i@b] * [j@b] * f(i))))",
            "sum(i: sum(j: ([i@b] * [j@a] * [i~j:1] * f(i))))", "sum(i: sum(j: ([j@a] * [i:a] * [i@b] * f(i))))",
            "(sum(i: [i@b]) * sum(j: ([j:b] * [j@b] * f(j))))", "sum(i: [i@a])",
        ]
        source = random.Random(551)
        populations = [random_population(source, world, 8) for _ in range(3)]
        drawings = source.sample(list(all_drawings(plan)), 12)
        checked = 0
        for text, other in itertools.combinations(programs, 2):
            one, other = guess(plan, read_program(text)), guess(plan, read_program(other))
            for target in {str(form): form for form in (mean(plan, one), mean(plan, other))}.values():
                best = estimate_form(plan, target)
                for form in (one, other, one + other - best):
                    if is_right(plan, form, target):
                        checked += 1
                        for drawing in drawings:
                            for population in populations:
                                self.assertEqual(drawing.value(form, population), drawing.value(best, population))
        self.assertGreater(checked, 25)

    def test_others_differ_where_a_plan_is_not_steady(self):
        world = World.plain(4)
        plan = Plan(world, [("a", None, ((2,),)), ("b", None, ((3,),))], [("f", "a", "all"), ("f", "b", "all")])
        total = form_of(world, read_program("sum(i: f(i))"))
        one = plan_form(plan, read_program("(2 * sum(i: ([i@a] * f(i))))"))
        other = plan_form(plan, read_program("(4/3 * sum(i: ([i@b] * f(i))))"))
        self.assertTrue(is_right(plan, one, total) and is_right(plan, other, total))
        population = Population(world, [(("f", ((0, 1),)), 3)])
        self.assertTrue(any(drawing.value(one, population) != drawing.value(other, population)
                            for drawing in all_drawings(plan)))


if __name__ == "__main__":
    unittest.main()
