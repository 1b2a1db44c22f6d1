"""Tests of fewtell.levels: level numbers, tops, blocks, and what they tell of square forms."""

import itertools
import random
import unittest
from fractions import Fraction

from fewtell.alike import Answer
from fewtell.errors import HasWishes, InvalidRow, NotBelow, NotSquare, UnknownName, UnlikeWorlds
from fewtell.forms import Form, constant, form_of
from fewtell.guesses import plan_form
from fewtell.levels import Below, Blocks, Never, greatest_ratio, level_numbers, never_below, never_more, top
from fewtell.plans import Plan
from fewtell.populations import Population
from fewtell.possible import estimate_form
from fewtell.spreads import spread
from fewtell.texts import read_program
from fewtell.worlds import World
from tests.by_hand import pair

TRAITS = [("f", 1, False, False), ("x", 1, False, True), ("g", 2, False, False), ("flag", 1, True, False)]
MOST = 10 ** 30
SMALL = [
    World(parts, TRAITS) for parts in (
        [("a", (3,))], [("a", (1,))], [("a", (2, 2))], [("a", (2, 1, 2)), ("b", (2,))], [("a", (1, 2)), ("b", (1,))],
        [("a", (2,)), ("b", (2, 2)), ("c", (1, 1))], [("a", (2, 2, 2))], [("a", (1,)), ("b", (1,)), ("c", (1,))],
    )
]
NUMBERS = [(0, 1), (1, 1), (-1, 1), (2, 1), (-1, 2), (1, 3), (-3, 1), (5, 2)]


def square_webs(world, trait="f"):
    """The webs of square forms of a world."""
    people = list(world.all_people())
    found = []
    for one, other in itertools.combinations_with_replacement(people, 2):
        if one == other:
            found.append(((one,), ((),), ((trait, (0,)), (trait, (0,)))))
        else:
            found.append(((one, other), ((), ()), ((trait, (0,)), (trait, (1,)))))
    return [web for web, _ in Form(world, [(web, (1, 1)) for web in found]).terms()]


def random_square(source, world, numbers=None):
    """A square form."""
    return Form(world, [(web, source.choice(numbers or NUMBERS)) for web in square_webs(world)])


def matrix_of(form, trait="f"):
    """The symmetric matrix of a square form with a row for each person, found by populations."""
    people = list(form.world.all_people())

    def number(*lot):
        return Fraction(*form.value(Population(form.world, [((trait, (one,)), 1) for one in lot])))

    found = {}
    for one in people:
        for other in people:
            found[one, other] = number(one) if one == other else (number(one, other) - number(one) - number(other)) / 2
    return people, found


def determinant(matrix):
    if not matrix:
        return Fraction(1)
    return sum((-1) ** at * matrix[0][at] * determinant([row[:at] + row[at + 1:] for row in matrix[1:]])
               for at in range(len(matrix)))


def is_never_below(matrix):
    """Whether no principal minor of a symmetric matrix is below 0."""
    lots = range(len(matrix))
    return all(determinant([[matrix[one][other] for other in lot] for one in lot]) >= 0
               for many in range(1, len(matrix) + 1) for lot in itertools.combinations(lots, many))


def fractions(rows):
    return [[Fraction(*number) for number in row] for row in rows]


def target(text, world):
    return form_of(world, read_program(text))


def people_below(world, node):
    return [person for person in world.all_people() if person[:len(node)] == node]


class TestLevelNumbers(unittest.TestCase):
    def test_numbers_of_contrasts(self):
        # A contrast of a level gives numbers to the children of one node that add up to 0: the form is a square there.
        source = random.Random(611)
        for world in SMALL:
            for _ in range(6):
                form = random_square(source, world)
                people, matrix = matrix_of(form)
                for part, numbers in enumerate(level_numbers(form, "f")):
                    sizes = world.sizes(part)
                    self.assertEqual(len(numbers), len(sizes))
                    for level, number in enumerate(numbers):
                        if sizes[level] < 2:
                            self.assertIsNone(number)
                            continue
                        above = (part, *[0] * level)
                        lots = [people_below(world, (*above, child)) for child in (0, 1)]
                        signs = {one: (1 if one in lots[0] else -1) for lot in lots for one in lot}
                        for one in people:
                            found = sum(matrix[one, other] * sign for other, sign in signs.items())
                            self.assertEqual(found, Fraction(*number) * signs.get(one, 0))

    def test_tops(self):
        source = random.Random(612)
        for world in SMALL:
            for _ in range(6):
                form = random_square(source, world)
                people, matrix = matrix_of(form)
                wanted = [[sum(matrix[one, other] for one in people for other in people
                               if (one[0], other[0]) == (part, other_part)) for other_part in range(len(world))]
                          for part in range(len(world))]
                self.assertEqual(fractions(top(form, "f")), wanted)
                self.assertEqual(top(form, "f"), [[pair(number) for number in row] for row in wanted])

    def test_large_worlds(self):
        world = World([("a", (MOST, 10)), ("b", (MOST - 1,))], TRAITS)
        form = target("((sum(i: f(i)^2) * 3) + (sum(i: sum(j: ([i~j:1] * [i:a] * f(i) * f(j)))) * 5) + "
                      "(sum(i: sum(j: ([i:b] * f(i) * f(j)))) * 7))", world)
        # Each pair of people of both parts stands there once with b first.
        self.assertEqual(level_numbers(form, "f"), [[(53, 1), (3, 1)], [(3, 1)]])
        many = MOST - 1
        wanted = [[(MOST * 10 * 53, 1), pair(Fraction(7 * MOST * 10 * many, 2))],
                  [pair(Fraction(7 * MOST * 10 * many, 2)), (many * (3 + 7 * many), 1)]]
        self.assertEqual(top(form, "f"), wanted)
        total = target("sum(i: f(i))", World.plain(MOST, 7))
        plan = Plan(total.world, [("s", None, ((50, None),))], [("f", "s", "all")])
        found = spread(plan, estimate_form(plan, total))
        self.assertEqual(top(found, "f"), [[(0, 1)]])
        self.assertEqual(level_numbers(found, "f"), [[pair(Fraction(7 * MOST * (MOST - 50), 50 * (MOST - 1))), (0, 1)]])

    def test_forms_that_are_0(self):
        world = World([("a", (2, 1, 3)), ("b", (1,))], TRAITS)
        self.assertEqual(level_numbers(form=Form(world), trait="x"), [[(0, 1), None, (0, 1)], [None]])
        self.assertEqual(top(form=Form(world), trait="f"), [[(0, 1), (0, 1)], [(0, 1), (0, 1)]])

    def test_new_lists(self):
        form = target("sum(i: f(i)^2)", SMALL[2])
        level_numbers(form, "f")[0].clear()
        top(form, "f")[0].clear()
        self.assertEqual((level_numbers(form, "f"), top(form, "f")), ([[(1, 1), (1, 1)]], [[(4, 1)]]))


WORLD = World([("a", (2, 2)), ("b", (3,))], TRAITS)
SQUARE = target("sum(i: f(i)^2)", WORLD)
FOREIGN = target("sum(i: f(i)^2)", World.plain(3))
WISHED = plan_form(Plan(WORLD, [("w", None, ((1, 1), (1,)))]), read_program("sum(i: ([i@w] * f(i)^2))"))
NOT_SQUARE = [target(text, WORLD) for text in (
    "sum(i: f(i))", "sum(i: x(i)^2)", "sum(i: sum(j: (f(i) * x(j))))", "sum(i: (f(i) * x(i)))", "sum(i: f(i)^3)", "1",
    "sum(i: sum(j: g(i,j)))", "(sum(i: f(i)^2) + 1)", "(sum(i: f(i)^2) + sum(i: x(i)^2))", "sum(i: f(i))^3",
)]
UNKNOWN = [None, True, 0, 1, "", "h", "F", "g ", (), [], ("f",), ["f"], [["f"], None]]


class TestErrors(unittest.TestCase):
    def calls(self, form):
        blocks = Blocks(form.world, [((0,), 1)])
        return [
            lambda trait: level_numbers(form, trait), lambda trait: top(form, trait),
            lambda trait: blocks.value(form, trait), lambda trait: never_below(form, trait),
            lambda trait: never_more(Form(form.world), form, trait), lambda trait: greatest_ratio(form, form, trait),
            lambda trait: greatest_ratio(Form(form.world), form, trait),
            lambda trait: greatest_ratio(form, WISHED, trait),
        ]

    def refused(self, form, trait, wanted, many=8):
        for number, call in enumerate(self.calls(form)[:many]):
            with self.subTest(form=str(form), trait=trait, call=number), self.assertRaises(wanted) as caught:
                call(trait)
            if wanted == UnknownName:
                self.assertEqual(caught.exception.name, trait)

    def test_wishes_come_first(self):
        # The ratio of forms looks at all of the first form first, also at its trait.
        for trait in ("f", "h", "g", None):
            self.refused(WISHED, trait, HasWishes, 6)
        with self.assertRaises(HasWishes):
            greatest_ratio(SQUARE, WISHED, "f")
        with self.assertRaises(HasWishes):
            greatest_ratio(WISHED, NOT_SQUARE[0], "f")

    def test_unknown_traits(self):
        for trait in UNKNOWN:
            self.refused(SQUARE, trait, UnknownName)
            self.refused(NOT_SQUARE[0], trait, UnknownName)

    def test_forms_that_are_not_square(self):
        for form in NOT_SQUARE:
            self.refused(form, "f", NotSquare, 6)
        for trait in ("x", "g", "flag"):
            self.refused(SQUARE, trait, NotSquare, 6)
        for trait in ("g", "flag"):
            self.refused(Form(WORLD), trait, NotSquare)
        self.refused(target("sum(i: sum(j: (flag(i) * flag(j))))", WORLD), "flag", NotSquare)
        self.refused(target("sum(i: g(i,i)^2)", WORLD), "g", NotSquare)
        self.assertEqual(level_numbers(target("sum(i: x(i)^2)", WORLD), "x"), [[(1, 1), (1, 1)], [(1, 1)]])

    def test_unlike_worlds_come_first(self):
        blocks = Blocks(FOREIGN.world, [])
        for form in (SQUARE, WISHED, NOT_SQUARE[0]):
            for trait in ("f", "h", "g"):
                calls = [lambda: blocks.value(form, trait), lambda: never_more(form, FOREIGN, trait),
                         lambda: never_more(FOREIGN, form, trait), lambda: greatest_ratio(form, FOREIGN, trait),
                         lambda: greatest_ratio(FOREIGN, form, trait)]
                for call in calls:
                    with self.assertRaises(UnlikeWorlds):
                        call()

    def test_only_the_difference_counts_for_never_more(self):
        for form in [*NOT_SQUARE, WISHED]:
            self.assertEqual(never_more(form, form + SQUARE, "f").told(), "never")
            self.assertEqual(never_more(form + SQUARE, form, "f").told(), "below")


class TestBlocks(unittest.TestCase):
    def test_rows(self):
        rows = [((1,), 5), ((0, 1, 0), -3), ((0, 0), 10 ** 31 - 1), ((0, 1, 1), 0)]
        blocks = Blocks(world=WORLD, rows=rows)
        self.assertEqual(blocks.rows(), rows)
        self.assertEqual(blocks.world, WORLD)
        rows.clear()
        blocks.rows().clear()
        self.assertEqual(len(blocks.rows()), 4)
        self.assertEqual(Blocks(WORLD, ()).rows(), [])
        self.assertEqual(Blocks(WORLD, tuple(blocks.rows())).rows(), blocks.rows())

    def test_wrong_rows(self):
        good = [((1, 2), 5), ((0, 1, 0), -3)]
        wrong = [
            None, True, 1, "", (), [], ((0,),), [(0,), 1], ((0,), 1, 1), ((1, 0), None), ((1, 0), True),
            ((1, 0), "1"), ((1, 0), (1, 1)), ((1, 0), False), ((1, 0), [1]), (None, 1), (0, 1), ((), 1), ((2,), 1), ((0, 2), 1), ((0, 0, 2), 1), ((0, 0, 0, 0), 1),
            ((-1,), 1), ((False,), 1), ([0], 1), ((0, "0"), 1), (("f", ((1, 0),)), 1), ((1, 3), 1),
            # The same node, one above it, and one below it.
            ((1, 2), 1), ((1,), 1), ((0, 1), 1), ((0,), 1), ((0, 1, 0), -3),
        ]
        for row in wrong:
            for rows in ([*good, row], [*good, row, None], (*good, row)):
                with self.subTest(row=row), self.assertRaises(InvalidRow) as caught:
                    Blocks(WORLD, rows)
                self.assertEqual(caught.exception.index, 2)
        with self.assertRaises(InvalidRow) as caught:
            Blocks(WORLD, [((0,), 1), ((0, 1, 1), 1)])
        self.assertEqual(caught.exception.index, 1)
        for rows in (None, True, 3, "ab", ""):
            with self.assertRaises(InvalidRow) as caught:
                Blocks(WORLD, rows)
            self.assertEqual(caught.exception.index, 0)

    def random_blocks(self, source, world):
        nodes = [(part,) for part in range(len(world))]
        for part in range(len(world)):
            for level in range(1, 1 + world.depth(part)):
                nodes.extend(sorted({person[:level + 1] for person in world.all_people() if person[0] == part}))
        source.shuffle(nodes)
        rows = []
        for node in nodes[:5]:
            if not any(node[:len(its)] == its or its[:len(node)] == node for its, _ in rows):
                rows.append((node, source.randint(-4, 4)))
        return rows

    def test_values_person_by_person_and_pair_by_pair(self):
        source = random.Random(621)
        for world in SMALL:
            for _ in range(8):
                form = random_square(source, world)
                rows = self.random_blocks(source, world)
                numbers = {person: number for node, number in rows for person in people_below(world, node)}
                people, matrix = matrix_of(form)
                wanted = sum(matrix[one, other] * numbers.get(one, 0) * numbers.get(other, 0)
                             for one in people for other in people)
                self.assertEqual(Blocks(world, rows).value(form, "f"), pair(wanted))
                population = Population(world, [(("f", (person,)), number) for person, number in numbers.items()])
                self.assertEqual(Blocks(world, rows).value(form=form, trait="f"), form.value(population))

    def test_values_in_large_worlds(self):
        world = World([("a", (MOST, 10)), ("b", (MOST,))], TRAITS)
        total = target("sum(i: f(i))", world)
        blocks = Blocks(world, [((1,), -2), ((0, 7), 3), ((0, 8, 9), 11), ((0, MOST - 1), 1)])
        number = -2 * MOST + 30 + 11 + 10
        self.assertEqual(blocks.value(total * total, "f"), (number ** 2, 1))
        self.assertEqual(blocks.value(target("sum(i: f(i)^2)", world), "f"), (4 * MOST + 90 + 121 + 10, 1))
        self.assertEqual(Blocks(world, [((0,), 1), ((1,), -10)]).value(total * total, "f"), (0, 1))
        self.assertEqual(Blocks(world, []).value(total * total, "f"), (0, 1))
        self.assertEqual(blocks.value(Form(world), "x"), (0, 1))

    def test_sisters_show_each_level(self):
        source = random.Random(651)
        world = World([("a", (4, 2, 3)), ("b", (1, 5))], TRAITS)
        for _ in range(20):
            form = random_square(source, world)
            for part, numbers in enumerate(level_numbers(form, "f")):
                for level, number in enumerate(numbers):
                    if number is not None:
                        above = (part, *[0] * level)
                        below = 1
                        for size in world.sizes(part)[level + 1:]:
                            below *= size
                        blocks = Blocks(world, [((*above, 0), 1), ((*above, 1), -1)])
                        self.assertEqual(blocks.value(form, "f"), pair(2 * below * Fraction(*number)))


class TestNever(unittest.TestCase):
    def test_small_worlds(self):
        source = random.Random(641)
        words = {"never": 0, "below": 0}
        for world in SMALL:
            for numbers in (NUMBERS, [(2, 1), (1, 1), (0, 1), (3, 1)], [(1, 1), (0, 1)], [(0, 1), (-1, 1)]):
                for _ in range(8):
                    form = random_square(source, world, numbers)
                    answer = never_below(form, "f")
                    words[answer.told()] += 1
                    people, matrix = matrix_of(form)
                    rows = [[matrix[one, other] for other in people] for one in people]
                    if len(people) <= 5:
                        self.assertEqual(bool(answer), is_never_below(rows))
                    self.check_answer(world, form, answer)
        self.assertGreater(min(words.values()), 40)

    def check_answer(self, world, form, answer):
        self.assertTrue(answer.holds())
        self.assertEqual((answer.world, answer.form, answer.trait), (world, form, "f"))
        self.assertIsInstance(answer, Answer)
        self.assertEqual(answer.is_yes, answer.told() == "never")
        self.assertEqual(repr(answer), f"Answer({answer.told()})")
        # Exactly if no level number is below 0, and no principal minor of the top is.
        good = all(number is None or number[0] >= 0 for row in level_numbers(form, "f") for number in row)
        good = good and is_never_below(fractions(top(form, "f")))
        self.assertEqual(bool(answer), good)
        self.assertEqual(Never(world, form, "f").holds(), good)
        if not answer:
            self.assertLess(answer.blocks.value(form, "f")[0], 0)
            for node, number in answer.blocks.rows():
                self.assertTrue(world.is_node(node))
                self.assertIsInstance(number, int)

    def test_tops_of_three_parts(self):
        source = random.Random(652)
        worlds = [World([(name, (size,)) for name, size in zip("abc", sizes)], TRAITS)
                  for sizes in ((1, 1, 1), (2, 3, 1), (MOST, MOST - 1, 7))]
        tops = [[1, 1, 1, 1, 1, -1], [0, 0, 0, 0, 0, 1], [0, 0, 0, 1, 0, 0], [1, 0, 0, 0, 0, 2], [1, 1, 1, 1, 1, 1],
                [4, 1, 1, 2, 2, 1], [4, 1, 1, 2, -2, -1], [1, 4, 9, 2, 3, 6], [1, 4, 9, 2, -3, 6], [0, 0, 0, 0, 0, 0],
                [2, 2, 2, -1, -1, -1], [3, 2, 2, -2, -2, -1], [0, 1, 1, 0, 0, 1], [0, 1, 0, 0, 0, -2]]
        tops = tops + [[source.randint(-2, 4) for _ in range(6)] for _ in range(60)]
        words = {"never": 0, "below": 0}
        for numbers in tops:
            one, two, three, first, second, third = numbers
            matrix = [[one, first, second], [first, two, third], [second, third, three]]
            for world in worlds:
                form = self.form_with_top(world, matrix)
                self.assertEqual(fractions(top(form, "f")), matrix)
                answer = never_below(form, "f")
                words[answer.told()] += 1
                self.assertEqual(bool(answer), is_never_below(matrix))
                self.check_answer(world, form, answer)
                if not answer:
                    numbers_of_parts = [0, 0, 0]
                    for node, number in answer.blocks.rows():
                        numbers_of_parts[node[0]] = number
                    found = sum(matrix[at][to] * numbers_of_parts[at] * numbers_of_parts[to]
                                for at in range(3) for to in range(3))
                    self.assertEqual(answer.blocks.value(form, "f"), (found, 1))
        self.assertGreater(min(words.values()), 20)

    def form_with_top(self, world, matrix):
        """A form with all level numbers 0 and with this top."""
        rows = []
        for part in range(3):
            size = world.size(part)
            each = pair(Fraction(matrix[part][part], size * size))
            rows.append(((((part, 0),), ((),), (("f", (0,)), ("f", (0,)))), each))
            if size > 1:
                rows.append(((((part, 0), (part, 1)), ((), ()), (("f", (0,)), ("f", (1,)))), each))
            for other in range(part):
                both = pair(Fraction(2 * matrix[part][other], size * world.size(other)))
                rows.append(((((other, 0), (part, 0)), ((), ()), (("f", (0,)), ("f", (1,)))), both))
        return Form(world, [row for row in rows if row[1] != (0, 1)])

    def test_levels_come_ahead_of_the_top(self):
        world = World.plain(3, 2)
        squares, total = target("sum(i: f(i)^2)", world), target("sum(i: f(i))", world)
        answer = never_below(squares - total * total, "f")
        self.assertEqual((answer.told(), answer.blocks.rows()), ("below", [((0,), 1)]))
        answer = never_below(total * total - squares, "f")
        self.assertEqual((answer.told(), answer.blocks.rows()), ("below", [((0, 0), 1), ((0, 1), -1)]))
        houses = target("sum(i: sum(j: ([i~j:1] * f(i) * f(j))))", world)
        self.assertEqual(never_below(houses * 3 - total * total, "f").told(), "never")
        answer = never_below(houses - squares, "f")
        self.assertEqual((answer.told(), answer.blocks.rows()), ("below", [((0, 0, 0), 1), ((0, 0, 1), -1)]))

    def test_answers_that_do_not_hold(self):
        blocks = Blocks(WORLD, [((0, 0), 1), ((0, 1), -1)])
        self.assertTrue(Never(world=WORLD, form=SQUARE, trait="f").holds())
        self.assertTrue(Below(world=WORLD, form=-SQUARE, trait="f", blocks=blocks).holds())
        self.assertFalse(Never(WORLD, -SQUARE, "f").holds())
        self.assertFalse(Below(WORLD, SQUARE, "f", blocks).holds())
        self.assertFalse(Below(WORLD, -SQUARE, "f", Blocks(WORLD, [])).holds())
        self.assertFalse(Below(WORLD, -SQUARE, "f", Blocks(WORLD, [((0,), 0)])).holds())
        self.assertFalse(Below(WORLD, Form(WORLD), "f", blocks).holds())
        self.assertTrue(Never(WORLD, Form(WORLD), "f").holds())
        for form in [*NOT_SQUARE, WISHED, FOREIGN]:
            self.assertFalse(Never(WORLD, form, "f").holds())
            self.assertFalse(Below(WORLD, -form, "f", blocks).holds())
        for trait in [*UNKNOWN, "x", "g", "flag"]:
            self.assertFalse(Never(WORLD, SQUARE, trait).holds())
            self.assertFalse(Below(WORLD, -SQUARE, trait, blocks).holds())
        self.assertFalse(Never(FOREIGN.world, SQUARE, "f").holds())
        self.assertFalse(Below(FOREIGN.world, -SQUARE, "f", blocks).holds())
        self.assertFalse(Below(WORLD, -SQUARE, "f", Blocks(FOREIGN.world, [((0,), 1)])).holds())
        answer = Below(WORLD, -SQUARE, "f", blocks)
        self.assertEqual((answer.world, answer.form, answer.trait), (WORLD, -SQUARE, "f"))
        self.assertEqual((answer.blocks.rows(), answer.told(), bool(answer)), (blocks.rows(), "below", False))

    def test_plans_that_never_spread_more(self):
        # Drawing whole houses, or people of all houses, or by chance, told by the level numbers of the difference.
        world = World.plain(12, 4)
        total = target("sum(i: f(i))", world)
        found = {}
        for word, waves in [("houses", (3, None)), ("more", (4, None)), ("people", (None, 1)), ("both", (6, 2)), ("chance", ((1, 4), None))]:
            plan = Plan(world, [("a", None, (waves,))], [("f", "a", "all")])
            found[word] = spread(plan, estimate_form(plan, total))
        for one, other in itertools.product(found, repeat=2):
            answer = never_more(one=found[one], other=found[other], trait="f")
            numbers = level_numbers(found[other] - found[one], "f")[0]
            never = all(number[0] >= 0 for number in numbers) and top(found[other] - found[one], "f")[0][0][0] >= 0
            self.assertEqual(bool(answer), never)
            self.assertTrue(answer.holds())
            self.assertEqual((answer.form, answer.trait), (found[other] - found[one], "f"))
            if one == other:
                self.assertEqual(answer.told(), "never")
        self.assertEqual(never_more(found["more"], found["houses"], "f").told(), "never")
        self.assertEqual(never_more(found["houses"], found["more"], "f").told(), "below")
        # By chance, houses with the same total spread too; by number, houses with another one spread a little more.
        self.assertEqual(never_more(found["houses"], found["chance"], "f").blocks.rows(), [((0, 0), 1), ((0, 1), -1)])
        self.assertEqual(never_more(found["chance"], found["houses"], "f").blocks.rows(), [((0,), 1)])


class TestGreatestRatio(unittest.TestCase):
    def spread_of(self, world, *hows):
        total = target("sum(i: f(i))", world)
        plan = Plan(world, [("a", None, hows)], [("f", "a", "all")])
        return spread(plan, estimate_form(plan, total))

    def test_the_greatest_share_of_the_level_numbers(self):
        world = World([("a", (12, 4)), ("b", (20,)), ("c", (1,))], TRAITS)
        plans = [((3, None), (5,), (1,)), ((None, 1), (5,), (None,)), ((6, 2), (10,), (1,)), ((2, 3), (4,), (1,)),
                 ((None, None), (3,), (1,)), ((11, 3), (None,), (1,)), ((None, None), (None,), (None,))]
        forms = [self.spread_of(world, *hows) for hows in plans]
        nones = 0
        for one, other in itertools.product(forms, repeat=2):
            pairs = [(Fraction(*number), Fraction(*its)) for numbers, others in
                     zip(level_numbers(one, "f"), level_numbers(other, "f"))
                     for number, its in zip(numbers, others) if number is not None]
            found = greatest_ratio(one=one, other=other, trait="f")
            if any(number > 0 and its == 0 for number, its in pairs):
                self.assertIsNone(found)
                nones += 1
                continue
            wanted = max([number / its for number, its in pairs if its > 0] + [Fraction(0)])
            self.assertEqual(found, pair(wanted))
            # One is never more than so many times the other, and more than less than so many times it.
            self.assertTrue(never_more(one * found[1], other * found[0], "f"))
            if wanted > 0:
                self.assertFalse(never_more(one * (1000 * found[1]), other * (1000 * found[0] - 1), "f"))
        self.assertGreater(nones, 5)

    def test_large_worlds(self):
        world = World([("a", (MOST, 10)), ("b", (MOST,))], TRAITS)
        one = self.spread_of(world, (1000, 1), (500,))
        other = self.spread_of(world, (2000, 1), (100,))
        # By parts: 10 ** 3 houses against twice as many, and 500 people against 100.
        found = Fraction(*greatest_ratio(one, other, "f"))
        self.assertEqual(found, max(Fraction(*number) / Fraction(*its) for numbers, others in zip(
            level_numbers(one, "f"), level_numbers(other, "f")) for number, its in zip(numbers, others)))
        self.assertEqual(round(found, 6), 2)
        self.assertEqual(round(Fraction(*greatest_ratio(other, one, "f")), 6), 5)

    def test_nothing_that_spreads(self):
        world = World.plain(3, 2)
        none = Form(world)
        some = self.spread_of(world, (2, None))
        self.assertEqual(greatest_ratio(none, none, "f"), (0, 1))
        self.assertEqual(greatest_ratio(none, some, "f"), (0, 1))
        self.assertIsNone(greatest_ratio(some, none, "f"))
        self.assertEqual(greatest_ratio(some, some, "f"), (1, 1))
        self.assertEqual(greatest_ratio(some * 3, some * 7, "f"), (3, 7))
        self.assertEqual(greatest_ratio(Form(World.plain(1)), Form(World.plain(1)), "f"), (0, 1))

    def test_errors_in_their_order(self):
        some = self.spread_of(World([("a", (12, 4)), ("b", (20,))], TRAITS), (3, None), (5,))
        world = some.world
        squares, total = target("sum(i: f(i)^2)", world), target("sum(i: f(i))", world)
        cross = target("sum(i: sum(j: ([i:a] * [j:b] * f(i) * f(j))))", world)
        for form in (squares, total * total, -squares, -some, some + squares, some + cross, cross):
            for one, other in ((form, some), (some, form), (form, form)):
                with self.assertRaises(NotBelow):
                    greatest_ratio(one, other, "f")
        # All else that is wrong comes first.
        wished = plan_form(Plan(world, [("w", None, ((1, 1), (1,)))]), read_program("sum(i: ([i@w] * f(i)^2))"))
        with self.assertRaises(UnlikeWorlds):
            greatest_ratio(squares, FOREIGN, "f")
        with self.assertRaises(HasWishes):
            greatest_ratio(squares, wished, "f")
        with self.assertRaises(NotSquare):
            greatest_ratio(squares, total, "f")
        with self.assertRaises(NotSquare):
            greatest_ratio(total, wished, "f")
        with self.assertRaises(HasWishes):
            greatest_ratio(wished, total, "h")
        with self.assertRaises(UnknownName):
            greatest_ratio(squares, wished, "h")
        with self.assertRaises(NotSquare):
            greatest_ratio(constant(world, (1, 1)), squares, "f")


if __name__ == "__main__":
    unittest.main()
