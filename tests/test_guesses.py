"""Tests of fewtell.guesses: forms with waves, guesses, and their means."""

import random
import unittest
from fractions import Fraction

from fewtell.errors import HasWishes, InvalidProgram, InvalidWeb, TooLarge, TooMany, TooWide, UnknownName
from fewtell.errors import UnlikeWorlds, Unseen
from fewtell.forms import Form, constant, form_of
from fewtell.guesses import guess, is_guess, is_right, mean, mean_given, plan_form
from fewtell.plans import Plan
from fewtell.texts import read_program
from fewtell.webs import is_web, standard
from fewtell.worlds import World
from tests.by_hand import all_drawings, form_number, good_program, number_of, pair, random_plan, random_population
from tests.by_hand import random_web

TRAITS = [("f", 1, False, False), ("g", 2, False, False), ("even", 2, False, True), ("flag", 1, True, False)]
WORLD = World([("all", (9,))], TRAITS)
A, B = (0, 0), (0, 1)
ALL = ((None,),)
CHAIN = Plan(WORLD, [("a", None, ((6,),)), ("b", "a", ((3,),)), ("c", None, (((1, 3),),))],
             [("f", "b", "all"), ("g", "a", "first"), ("even", "c", "any"), ("even", "a", "all")])
SMALL = [
    World(parts, TRAITS) for parts in ([("a", (3,))], [("a", (2, 2))], [("a", (1, 2)), ("b", (2,))], [("a", (2, 1, 2))])
]


def form(text, plan=CHAIN):
    return plan_form(plan, read_program(text))


def web(people, wishes, *pairs):
    return (tuple(people), tuple(wishes), tuple(pairs))


def wished(*wishes):
    """A web of one person with these wishes and one entry."""
    return web([A], [wishes], ("f", (0,)))


class TestPlanForm(unittest.TestCase):
    def test_the_second_example(self):
        plan = Plan(World.plain(3), [("a", None, ((2,),))], [("f", "a", "all")])
        found = plan_form(plan, read_program("sum(i: ([i@a] * f(i)))"))
        self.assertEqual(str(found), "1 f(0) @ 0.0:a")
        self.assertEqual(str(mean(plan, found)), "2/3 f(0) @ 0.0")

    def test_tests_of_waves_are_wishes(self):
        rows = [
            ("sum(i: [i@a])", "1 1 @ 0.0:a"), ("sum(i: ([i@a] * [i@a]))", "1 1 @ 0.0:a"), ("sum(i: [i@a]^0)", "9 1"),
            ("sum(i: [i@a]^3)", "1 1 @ 0.0:a"), ("sum(i: (f(i) * [i@c] * [i@a]))", "1 f(0) @ 0.0:a,c"),
            ("sum(i: sum(j: ([i@a] * f(j))))", "1 f(0) @ 0.0:a + 1 f(0) @ 0.0 0.1:a"),
            ("sum(i: (1 + (-1 * [i@a])))", "9 1 + -1 1 @ 0.0:a"),
            ("sum(i: sum(j: ([i@a] * [i=j])))", "1 1 @ 0.0:a"), ("sum(i: sum(j: [i@a]))", "9 1 @ 0.0:a"),
            ("sum(i: f(i))", "1 f(0) @ 0.0"), ("4", "4 1"),
        ]
        for text, wanted in rows:
            with self.subTest(text=text):
                self.assertEqual(str(form(text)), wanted)
        self.assertEqual(plan_form(program=read_program("1"), plan=CHAIN), constant(WORLD, (1, 1)))

    def test_wishes_that_are_left_out(self):
        self.assertEqual(str(form("sum(i: ([i@a] * [i@b]))")), "1 1 @ 0.0:b")
        self.assertEqual(str(form("sum(i: ([i@b] * [i@a] * [i@c]))")), "1 1 @ 0.0:b,c")
        self.assertEqual(form("sum(i: (([i@a] * [i@b]) + (-1 * [i@b])))"), Form(WORLD))
        self.assertEqual(str(form("sum(i: (f(i) * (([i@a] * [i@b]) + [i@b])))")), "2 f(0) @ 0.0:b")
        # Two people are told apart by their wishes only as long as these differ.
        text = "sum(i: sum(j: (even(i,j) * [i@a] * [i@b] * [j@b])))"
        self.assertEqual(str(form(text)), "1 even(0,0) @ 0.0:b + 1 even(0,1) @ 0.0:b 0.1:b")
        text = "sum(i: sum(j: (f(i) * f(j)^2 * [i@a] * [j@b] * [j@a])))"
        self.assertEqual(str(form(text)), "1 f(0)^3 @ 0.0:b + 1 f(0)*f(1)^2 @ 0.0:a 0.1:b")

    def test_numbers_for_all_drawings(self):
        source = random.Random(51)
        checked = 0
        while checked < 80:
            plan = random_plan(source, source.choice(SMALL))
            drawings = all_drawings(plan)
            names = tuple(plan.names())
            program = good_program(source, plan.world, names, most_width=3)
            found = plan_form(plan, program)
            if len(drawings) > 300 or len(found) > 30:
                continue
            checked += 1
            for its, _ in found.terms():
                self.assertTrue(is_web(plan.world, its, waves=names))
                self.assertEqual(standard(plan.world, its), its)
                self.assertTrue(all(plan.least(wishes) == wishes for wishes in its[1]))
            population = random_population(source, plan.world, source.choice([1, 4, 8]))
            for _, waves in source.sample(drawings, min(5, len(drawings))):
                wanted = number_of(plan.world, program, population, waves)
                self.assertEqual(form_number(found, population, waves), wanted, program)

    def test_errors(self):
        f = ("trait", "f", ("i",))
        rows = [
            (None, InvalidProgram, "path", ()), (("sum", "i", ("wave", "d", "i")), InvalidProgram, "path", (0,)),
            (("sum", "i", ("wave", "f", "i")), InvalidProgram, "path", (0,)),
            (("wave", "a", "i"), InvalidProgram, "path", ()),
            (read_program("sum(i: sum(j: sum(k: sum(l: sum(m: [i@a])))))"), TooWide, "most", 4),
            (("sum", "i", ("times", ("times", *[f] * 8), f)), TooLarge, "most", 8),
            (("sum", "i", ("power", ("plus", *[("wave", "a", "i")] * 8), 2)), TooMany, "most", 60),
        ]
        for program, error, word, wanted in rows:
            for call in (plan_form, guess):
                with self.subTest(program=program), self.assertRaises(error) as caught:
                    call(CHAIN, program)
                self.assertEqual(getattr(caught.exception, word), wanted)


class TestGuess(unittest.TestCase):
    def test_seen_entries(self):
        texts = [
            "3", "sum(i: [i@a])", "sum(i: ([i@b] * f(i)))", "sum(i: sum(j: ([i@a] * g(i,j))))",
            "sum(i: sum(j: ([i@b] * g(i,j) * f(i))))", "sum(i: sum(j: ([i@c] * even(i,j))))",
            "sum(i: sum(j: ([j@c] * even(i,j))))", "sum(i: sum(j: ([i@a] * [j@b] * even(i,j))))", "sum(i: [i@c])",
            "(sum(i: ([i@b] * f(i)))^2 + 1)", "sum(i: (f(i) + (-1 * f(i))))",
        ]
        for text in texts:
            with self.subTest(text=text):
                self.assertEqual(guess(CHAIN, read_program(text)), form(text))
                self.assertIs(is_guess(CHAIN, form(text)), True)

    def test_entries_that_are_not_sure_to_be_seen(self):
        rows = [
            ("sum(i: f(i))", "f(0) @ 0.0"), ("sum(i: ([i@a] * f(i)))", "f(0) @ 0.0:a"),
            ("sum(i: ([i@c] * f(i)))", "f(0) @ 0.0:c"), ("sum(i: ([i@b] * flag(i)))", "flag(0) @ 0.0:b"),
            ("sum(i: sum(j: ([j@a] * g(i,j))))", "g(0,1) @ 0.0 0.1:a"),
            ("sum(i: sum(j: ([i@a] * even(i,j))))", "even(0,1) @ 0.0 0.1:a"),
            ("sum(i: ([i@b] * f(i) * flag(i)))", "f(0)*flag(0) @ 0.0:b"),
            ("sum(i: sum(j: ([i@b] * f(i) * f(j))))", "f(0)*f(1) @ 0.0 0.1:b"),
        ]
        for text, wanted in rows:
            found = form(text)
            least = [its for its, _ in found.terms() if str(Form(WORLD, [(its, (1, 1))])) == f"1 {wanted}"]
            with self.subTest(text=text), self.assertRaises(Unseen) as caught:
                guess(CHAIN, read_program(text))
            self.assertEqual([caught.exception.web], least)
            self.assertIs(is_guess(CHAIN, found), False)

    def test_the_least_web(self):
        text = "(sum(i: ([i@b] * f(i))) + sum(i: (f(i)^2 * [i@c])) + sum(i: ([i@a] * f(i))) + sum(i: flag(i)))"
        with self.assertRaises(Unseen) as caught:
            guess(CHAIN, read_program(text))
        found = [its for its, _ in form(text).terms() if not is_guess(CHAIN, Form(WORLD, [(its, (1, 1))]))]
        self.assertEqual(len(found), 3)
        self.assertEqual(caught.exception.web, min(found))
        with self.assertRaises(Unseen) as caught:
            guess(program=read_program("sum(i: f(i))"), plan=CHAIN)
        self.assertEqual(caught.exception.web, (((0, 0),), ((),), (("f", (0,)),)))

    def test_without_sights(self):
        plan = Plan(WORLD, [("a", None, ALL)])
        self.assertIs(is_guess(plan, form("sum(i: ([i@a] * f(i)))", plan)), False)
        self.assertIs(is_guess(plan, form("sum(i: [i@a])", plan)), True)
        self.assertIs(is_guess(plan, Form(WORLD)), True)

    def test_all_ends(self):
        rows = [("all", [True, False, False]), ("first", [True, True, False]), ("any", [True, True, True])]
        for ends, wanted in rows:
            plan = Plan(WORLD, [("a", None, ALL)], [("g", "a", ends)])
            found = [is_guess(plan, form(f"sum(i: sum(j: ({tests} * g(i,j))))", plan))
                     for tests in ("[i@a] * [j@a]", "[i@a]", "[j@a]")]
            self.assertEqual(found, wanted)
            self.assertIs(is_guess(plan, form("sum(i: ([i@a] * g(i,i)))", plan)), True)

    def test_webs_as_they_stand(self):
        """Wishes that a plan leaves out are looked at, too."""
        rows = [(wished("a", "b"), True), (wished("b"), True), (wished("a"), False), (wished("b", "c"), True),
                (wished("a", "c"), False)]
        for its, wanted in rows:
            self.assertIs(is_guess(CHAIN, Form(WORLD, [(its, (1, 1))])), wanted)
            self.assertIs(is_guess(CHAIN, Form(WORLD, [(its, (1, 1)), (wished("b"), (1, 1))])), wanted)
        self.assertIs(is_guess(form=Form(WORLD), plan=CHAIN), True)

    def test_what_is_shown_is_enough(self):
        """A guess has the same number for populations that differ only in entries that are not seen."""
        source = random.Random(52)
        guesses = checked = 0
        while guesses < 60:
            plan = random_plan(source, source.choice(SMALL))
            drawings = all_drawings(plan)
            webs = [random_web(source, plan.world, tuple(sorted(plan.names())), 2) for _ in range(source.randint(1, 2))]
            found = Form(plan.world, [(its, (1, 1)) for its in webs])
            if len(drawings) > 300 or not is_guess(plan, found) or found.degree == 0:
                continue
            guesses += 1
            for _, waves in source.sample(drawings, min(4, len(drawings))):
                population = random_population(source, plan.world, 10)
                for (trait, people), _ in population.rows():
                    if not self.sees(plan, waves, trait, people):
                        checked += 1
                        less = population.with_number(trait, people, 0)
                        self.assertEqual(form_number(found, less, waves), form_number(found, population, waves))
        self.assertGreater(checked, 100)

    def sees(self, plan, waves, trait, people):
        for name, wave, ends in plan.sights():
            hits = [person in waves[wave] for person in people]
            if name == trait and {"all": all(hits), "any": any(hits), "first": hits[0]}[ends]:
                return True
        return False


class TestMean(unittest.TestCase):
    def test_by_hand(self):
        rows = [
            ("sum(i: ([i@a] * f(i)))", "2/3 f(0) @ 0.0"), ("sum(i: ([i@b] * f(i)))", "1/3 f(0) @ 0.0"),
            ("sum(i: ([i@a] * [i@b] * [i@c] * f(i)))", "1/9 f(0) @ 0.0"), ("sum(i: [i@a])", "6 1"),
            ("sum(i: [i@c])^2", "11 1"), ("sum(i: [i@a])^2", "36 1"),
            ("sum(i: sum(j: ([i@a] * f(j))))", "6 f(0) @ 0.0"),
            ("sum(i: ([i@b] * f(i)))^2", "1/3 f(0)^2 @ 0.0 + 1/12 f(0)*f(1) @ 0.0 0.1"),
            ("sum(i: f(i))", "1 f(0) @ 0.0"), ("7/2", "7/2 1"), ("sum(i: ([i@a] + (-2/3)^1))", "0"),
        ]
        for text, wanted in rows:
            with self.subTest(text=text):
                self.assertEqual(str(mean(CHAIN, form(text))), wanted)
        self.assertEqual(mean(form=form("3"), plan=CHAIN), constant(WORLD, (3, 1)))

    def test_chances_of_0(self):
        plan = Plan(WORLD, [("a", None, ((1,),))], [("f", "a", "all")])
        found = form("sum(i: ([i@a] * f(i)))^2", plan)
        self.assertEqual(len(found), 2)
        self.assertEqual(str(mean(plan, found)), "1/9 f(0)^2 @ 0.0")

    def test_against_all_drawings(self):
        source = random.Random(53)
        checked = 0
        while checked < 80:
            plan = random_plan(source, source.choice(SMALL))
            drawings = all_drawings(plan)
            program = good_program(source, plan.world, tuple(plan.names()), most_width=3)
            if len(drawings) > 200:
                continue
            checked += 1
            found = mean(plan, plan_form(plan, program))
            self.assertTrue(all(wishes == () for its, _ in found.terms() for wishes in its[1]))
            self.assertTrue(all(standard(plan.world, its) == its for its, _ in found.terms()))
            population = random_population(source, plan.world, source.choice([1, 4, 8]))
            wanted = Fraction(0)
            for chance, waves in drawings:
                wanted += chance * number_of(plan.world, program, population, waves)
            self.assertEqual(found.value(population), pair(wanted), (plan.waves(), program))

    def test_great_worlds(self):
        most = 10 ** 30
        world = World.plain(most, 4)
        plan = Plan(world, [("a", None, ((1000, 2),))], [("f", "a", "all")])
        found = mean(plan, form("sum(i: sum(j: ([i@a] * [j@a] * f(i))))", plan))
        self.assertEqual(str(found), f"{Fraction(2000 * 1000 * 2, 4 * most)} f(0) @ 0.0.0")


class TestMeanGiven(unittest.TestCase):
    def test_by_hand(self):
        rows = [
            ("sum(i: ([i@b] * f(i)))", "a", "1/2 f(0) @ 0.0:a"), ("sum(i: ([i@b] * f(i)))", "b", "1 f(0) @ 0.0:b"),
            ("sum(i: ([i@b] * f(i)))", "c", "1/3 f(0) @ 0.0"),
            ("sum(i: ([i@c] * [i@b] * f(i)))", "a", "1/6 f(0) @ 0.0:a"),
            ("sum(i: ([i@a] * f(i)))", "b", "1 f(0) @ 0.0:a"),
            ("sum(i: ([i@c] * [i@b] * f(i)))", "c", "1/3 f(0) @ 0.0:c"),
            ("sum(i: [i@b])", "a", "1/2 1 @ 0.0:a"), ("sum(i: [i@c])", "a", "3 1"),
            ("sum(i: [i@c])", "c", "1 1 @ 0.0:c"),
            ("sum(i: sum(j: ([i@c] * [j@a] * f(j))))", "b", "3 f(0) @ 0.0:a"),
        ]
        for text, wave, wanted in rows:
            with self.subTest(text=text, wave=wave):
                self.assertEqual(str(mean_given(CHAIN, form(text), wave)), wanted)
        self.assertEqual(mean_given(wave="a", form=form("3"), plan=CHAIN), constant(WORLD, (3, 1)))

    def test_wishes_that_the_plan_leaves_out(self):
        found = Form(WORLD, [(wished("a", "b"), (1, 1))])
        self.assertEqual(str(mean_given(CHAIN, found, "b")), "1 f(0) @ 0.0:b")
        self.assertEqual(str(mean_given(CHAIN, found, "a")), "1/2 f(0) @ 0.0:a")

    def test_a_fork(self):
        plan = Plan(WORLD, [("a", None, ((6,),)), ("b", "a", ((3,),)), ("c", "a", ((2,),))])
        text = "sum(i: ([i@b] * [i@c]))"
        self.assertEqual(str(mean_given(plan, form(text, plan), "b")), "1/3 1 @ 0.0:b")
        self.assertEqual(str(mean_given(plan, form(text, plan), "c")), "1/2 1 @ 0.0:c")
        self.assertEqual(str(mean_given(plan, form(text, plan), "a")), "1/6 1 @ 0.0:a")

    def test_against_all_drawings(self):
        source = random.Random(54)
        checked = 0
        while checked < 60:
            plan = random_plan(source, source.choice(SMALL))
            drawings = [row for row in all_drawings(plan) if row[0]]
            program = good_program(source, plan.world, tuple(plan.names()), most_width=2)
            if len(drawings) > 150:
                continue
            checked += 1
            found = plan_form(plan, program)
            wave = source.choice(plan.names())
            given = mean_given(plan, found, wave)
            self.assertEqual(mean(plan, given), mean(plan, found))
            kept = [wave, *plan.roots(wave)]
            self.assertTrue(all(name in kept for its, _ in given.terms() for wishes in its[1] for name in wishes))
            self.assertTrue(all(plan.least(wishes) == wishes for its, _ in given.terms() for wishes in its[1]))
            population = random_population(source, plan.world, 5)
            groups = {}
            for chance, waves in drawings:
                groups.setdefault(tuple(tuple(sorted(waves[name])) for name in kept), []).append((chance, waves))
            for key in source.sample(sorted(groups), min(3, len(groups))):
                total = sum(chance for chance, _ in groups[key])
                wanted = sum(chance * number_of(plan.world, program, population, waves) for chance,
                             waves in groups[key])
                self.assertEqual(form_number(given, population, groups[key][0][1]), wanted / total)

    def test_means_of_means(self):
        source = random.Random(55)
        for _ in range(60):
            plan = random_plan(source, source.choice(SMALL))
            found = plan_form(plan, good_program(source, plan.world, tuple(plan.names())))
            whole = mean(plan, found)
            self.assertEqual(mean(plan, whole), whole)
            for wave in plan.names():
                given = mean_given(plan, found, wave)
                self.assertEqual(mean_given(plan, given, wave), given)
                self.assertEqual(mean(plan, given), whole)
                for root in plan.roots(wave):
                    self.assertEqual(mean_given(plan, given, root), mean_given(plan, found, root))


class TestIsRight(unittest.TestCase):
    def test_equal_and_nearly_equal_targets(self):
        found = form("sum(i: ([i@b] * f(i)))") * 3
        target = form_of(WORLD, read_program("sum(i: f(i))"))
        self.assertIs(is_right(CHAIN, found, target), True)
        self.assertIs(is_right(target=target, form=found, plan=CHAIN), True)
        near = [
            Form(WORLD), target + constant(WORLD, (1, 10 ** 30)), target * 2, target.over(2), -target,
            form_of(WORLD, read_program("sum(i: f(i)^2)")), form_of(WORLD, read_program("sum(i: flag(i))")),
        ]
        for other in near:
            self.assertIs(is_right(CHAIN, found, other), False)
        self.assertIs(is_right(CHAIN, Form(WORLD), Form(WORLD)), True)
        self.assertIs(is_right(CHAIN, constant(WORLD, (2, 3)), constant(WORLD, (2, 3))), True)

    def test_a_form_that_is_no_guess(self):
        found = form("sum(i: ([i@a] * f(i)))") * 3
        target = form_of(WORLD, read_program("sum(i: f(i))")) * 2
        self.assertEqual(mean(CHAIN, found), target)
        self.assertIs(is_right(CHAIN, found, target), False)
        self.assertIs(is_right(CHAIN, target, target), False)

    def test_squares(self):
        found = form("(sum(i: ([i@b] * f(i) * f(i))) + (-1 * sum(i: ([i@b] * f(i)))^2))")
        target = form_of(WORLD, read_program("(sum(i: f(i)^2) + (-1 * sum(i: f(i))^2))"))
        self.assertEqual(str(target), "-1 f(0)*f(1) @ 0.0 0.1")
        self.assertIs(is_right(CHAIN, found * 12, target), True)
        self.assertIs(is_right(CHAIN, found * 9, target), False)


class TestErrors(unittest.TestCase):
    def setUp(self):
        self.other = World([("all", (8,))], TRAITS)
        self.unknown = Form(WORLD, [(wished("b"), (1, 1)), (wished("d"), (1, 1)), (wished("a", "d"), (1, 1))])

    def test_other_worlds(self):
        other = Form(self.other, [(wished("d"), (1, 1))])
        for call in (lambda: is_guess(CHAIN, other), lambda: mean(CHAIN, other), lambda: mean_given(CHAIN, other, "x"),
                     lambda: is_right(CHAIN, other, Form(WORLD)),
                     lambda: is_right(CHAIN, Form(WORLD), Form(self.other)),
                     lambda: is_right(CHAIN, Form(WORLD), other)):
            with self.assertRaises(UnlikeWorlds):
                call()
        equal = World([("all", (9,))], TRAITS)
        self.assertIs(is_guess(CHAIN, Form(equal)), True)

    def test_unknown_waves(self):
        least = (((0, 0),), (("a", "d"),), (("f", (0,)),))
        wished_target = Form(WORLD, [(wished("a"), (1, 1))])
        for call in (lambda: is_guess(CHAIN, self.unknown), lambda: mean(CHAIN, self.unknown),
                     lambda: mean_given(CHAIN, self.unknown, "x"), lambda: is_right(CHAIN, self.unknown, wished_target),
                     lambda: is_right(CHAIN, self.unknown, Form(self.other))):
            with self.assertRaises(InvalidWeb) as caught:
                call()
            self.assertEqual(caught.exception.given, least)

    def test_unknown_wave_of_mean_given(self):
        for wave in ["d", "", "f", None, True, 0, (), ["a"], ("a",)]:
            with self.subTest(wave=wave), self.assertRaises(UnknownName) as caught:
                mean_given(CHAIN, Form(WORLD), wave)
            self.assertEqual(repr(caught.exception.name), repr(wave))

    def test_targets(self):
        wished_target = Form(WORLD, [(wished("a"), (1, 1))])
        with self.assertRaises(HasWishes):
            is_right(CHAIN, Form(WORLD), wished_target)
        with self.assertRaises(HasWishes):
            is_right(CHAIN, form("sum(i: f(i))"), Form(WORLD, [(wished("d"), (1, 1))]))
        with self.assertRaises(UnlikeWorlds):
            is_right(CHAIN, form("sum(i: f(i))"), Form(self.other, [(wished("a"), (1, 1))]))


if __name__ == "__main__":
    unittest.main()
