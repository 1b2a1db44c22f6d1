"""Tests of fewtell.possible: what can be guessed, the guesses, and what shows that there are none."""

import itertools
import random
import unittest
from fractions import Fraction

from fewtell.alike import Answer
from fewtell.errors import Barred, HasWishes, InvalidWeb, UnlikeWorlds
from fewtell.forms import Form, constant, form_of
from fewtell.guesses import is_guess, is_right, mean, plan_form
from fewtell.plans import Plan
from fewtell.populations import Population
from fewtell.possible import Closed, Possible, estimate_form, guess_for, seen_web, sight
from fewtell.texts import read_program
from fewtell.webs import standard
from fewtell.worlds import World
from tests.by_hand import TRAITS, all_seatings, average, form_number, is_seen, pair, random_population, random_target
from tests.by_hand import random_web, seen_number, some_plans

MOST = 10 ** 30
PLAIN = World.plain(9)
THREE = Plan(PLAIN, [("a", None, ((3,),))], [("f", "a", "all")])


def target(text, world=PLAIN):
    return form_of(world, read_program(text))


def web(people, *pairs):
    return (tuple(people), ((),) * len(people), tuple(pairs))


def entry(*people, trait="f"):
    return (trait, people)


class TestSight(unittest.TestCase):
    def test_chances_over_all_drawings(self):
        source = random.Random(481)
        above = 0
        for plan, drawings in some_plans(source, 60, 150, with_sights=True):
            its = random_web(source, plan.world, (), 3)
            for seats in itertools.islice(all_seatings(plan.world, its[0]), 3):
                wanted = average(drawings, lambda waves: all(
                    is_seen(plan, waves, name, tuple(seats[at] for at in row)) for name, row in its[2]))
                self.assertEqual(sight(plan, its), pair(wanted))
                above += wanted > 0
        self.assertGreater(above, 20)

    def test_seen_webs_over_all_drawings(self):
        source = random.Random(482)
        for plan, drawings in some_plans(source, 40, 150, with_sights=True):
            its = random_web(source, plan.world, (), 3)
            form = seen_web(plan, its)
            self.assertEqual(form.world, plan.world)
            self.assertTrue(is_guess(plan, form))
            self.assertEqual(form, seen_web(plan, standard(plan.world, its)))
            self.assertTrue(all(plan.least(names) == names for row, _ in form.terms() for names in row[1]))
            population = random_population(source, plan.world, 6)
            for _, waves in source.sample(drawings, min(6, len(drawings))):
                self.assertEqual(form_number(form, population, waves), seen_number(plan, its, population, waves))

    def test_chances_by_numbers_and_fractions(self):
        world = World([("all", (MOST, 10))], TRAITS)
        waves = [("a", None, ((2, 4),)), ("b", "a", ((None, 2),)), ("c", None, (((1, 3), (1, 2)),))]
        plan = Plan(world, waves, [("f", "a", "all"), ("g", "b", "first"), ("even", "c", "any"), ("f", "c", "all")])
        one, two, far = (0, 0, 0), (0, 0, 1), (0, 1, 0)
        in_a = Fraction(2, MOST) * Fraction(4, 10)
        in_c = Fraction(1, 6)
        self.assertEqual(sight(plan, web([one], ("f", (0,)))), pair(in_a + in_c - in_a * in_c))
        self.assertEqual(sight(plan, web([one, two], ("g", (0, 1)))), pair(in_a / 2))
        self.assertEqual(sight(plan, web([one, two], ("g", (0, 1)), ("g", (1, 0)))), pair(in_a / 2 * Fraction(1, 9)))
        self.assertEqual(sight(plan, web([one, far], ("even", (0, 1)))), pair(2 * in_c - in_c * in_c))
        self.assertEqual(sight(plan, web([one, two], ("even", (0, 1)))), pair(Fraction(1, 3) * Fraction(3, 4)))
        self.assertEqual(sight(plan, web([one], ("flag", (0,)))), (0, 1))
        self.assertEqual(sight(plan, web([])), (1, 1))
        self.assertEqual(seen_web(plan, web([])), constant(world, (1, 1)))
        self.assertEqual(str(seen_web(plan, web([one, two], ("even", (0, 1))))),
                         "2 even(0,1) @ 0.0.0 0.0.1:c + -1 even(0,1) @ 0.0.0:c 0.0.1:c")

    def test_errors(self):
        one = (0, 0)
        wrong = [
            None, True, 1, "f", (), [], ((), ()), ([], (), ()), ((one,), ((),), ()), ((one,), (("a",),), (("f", (0,)),)),
            (((0, 9),), ((),), (("f", (0,)),)), ((one,), ((),), (("g", (0,)),)), [(one,), ((),), (("f", (0,)),)],
            ((one,), (("a",),), ()),
        ]
        for value in wrong:
            for call in (sight, seen_web):
                with self.subTest(value=value), self.assertRaises(InvalidWeb) as caught:
                    call(THREE, value)
                self.assertEqual(caught.exception.given, value)


    def test_several_sights_of_a_trait(self):
        waves = [("a", None, ((6,),)), ("b", "a", ((3,),)), ("c", None, (((1, 4),),))]
        one = web([(0, 0)], ("f", (0,)))
        for sights, text in [
            ("ab", "1 f(0) @ 0.0:a"), ("ba", "1 f(0) @ 0.0:a"), ("b", "1 f(0) @ 0.0:b"),
            ("ac", "1 f(0) @ 0.0:a + -1 f(0) @ 0.0:a,c + 1 f(0) @ 0.0:c"),
            ("cab", "1 f(0) @ 0.0:a + -1 f(0) @ 0.0:a,c + 1 f(0) @ 0.0:c"),
            ("bc", "1 f(0) @ 0.0:b + -1 f(0) @ 0.0:b,c + 1 f(0) @ 0.0:c"),
        ]:
            plan = Plan(PLAIN, waves, [("f", wave, "all") for wave in sights] + [("f", sights[0], "any")])
            self.assertEqual(str(seen_web(plan, one)), text)
        plan = Plan(PLAIN, waves, [("f", "a", "all"), ("f", "b", "all"), ("f", "c", "all")])
        self.assertEqual(sight(plan, one), pair(1 - Fraction(1, 3) * Fraction(3, 4)))


class TestPossible(unittest.TestCase):
    def test_guesses_that_are_right_on_average(self):
        source = random.Random(483)
        found = {"possible": 0, "closed": 0}
        for plan, drawings in some_plans(source, 120, 150, with_sights=True):
            form = random_target(source, plan.world)
            answer = guess_for(plan, form)
            found[answer.told()] += 1
            self.assertTrue(answer.holds())
            self.assertIsInstance(answer, Answer)
            self.assertEqual((answer.world, answer.plan, answer.target), (plan.world, plan, form))
            barred = [its for its, _ in form.terms() if sight(plan, its) == (0, 1)]
            self.assertEqual(bool(answer), not barred)
            if barred:
                with self.assertRaises(Barred) as caught:
                    estimate_form(plan, form)
                self.assertEqual(caught.exception.web, barred[0])
                continue
            self.assertEqual(answer.form, estimate_form(plan, form))
            self.assertTrue(is_right(plan, answer.form, form))
            for _ in range(2):
                population = random_population(source, plan.world, 6)
                wanted = average(drawings, lambda waves: form_number(answer.form, population, waves))
                self.assertEqual(wanted, form_number(form, population))
        self.assertGreater(min(found.values()), 25)

    def test_guess_is_the_sum_of_seen_webs_by_chances(self):
        source = random.Random(484)
        checked = 0
        for plan, _ in some_plans(source, 60, 150, with_sights=True):
            form = random_target(source, plan.world)
            if not guess_for(plan, form):
                continue
            checked += 1
            wanted = Form(plan.world)
            for its, factor in form.terms():
                share = Fraction(*factor) / Fraction(*sight(plan, its))
                wanted = wanted + (seen_web(plan, its) * share.numerator).over(share.denominator)
            self.assertEqual(estimate_form(plan, form), wanted)
        self.assertGreater(checked, 10)

    def test_known_guesses(self):
        # A total, the sum over pairs, and the sum of the squares of the deviations.
        for size, many in [(9, 3), (5, 2), (7, 7), (MOST, 10), (10 ** 30 - 7, 10 ** 29)]:
            world = World.plain(size)
            plan = Plan(world, [("a", None, ((many,),))], [("f", "a", "all")])
            total = target("sum(i: f(i))", world)
            seen = plan_form(plan, read_program("sum(i: ([i@a] * f(i)))"))
            self.assertEqual(estimate_form(plan, total), (seen * size).over(many))
            pairs = read_program("sum(i: sum(j: (f(i) * f(j) * (1 + (-1 * [i=j])))))")
            seen_pairs = plan_form(plan, ("sum", "i", ("sum", "j", ("times", ("wave", "a", "i"), ("wave", "a", "j"),
                                                                    pairs[2][2]))))
            wanted = (seen_pairs * (size * (size - 1))).over(many * (many - 1))
            self.assertEqual(estimate_form(plan, form_of(world, pairs)), wanted)
            squares = target("sum(i: f(i)^2)", world)
            deviations = squares - (total * total).over(size)
            seen_squares = plan_form(plan, read_program("sum(i: ([i@a] * f(i)^2))"))
            seen_deviations = seen_squares - (seen * seen).over(many)
            self.assertEqual(estimate_form(plan, deviations), (seen_deviations * (size - 1)).over(many - 1))
            self.assertTrue(is_right(plan, estimate_form(plan, deviations), deviations))

    def test_total_in_two_steps_and_by_fractions(self):
        world = World([("all", (MOST, 50))], TRAITS)
        total = target("sum(i: f(i))", world)
        plan = Plan(world, [("a", None, ((20, 5),))], [("f", "a", "all")])
        self.assertEqual(str(estimate_form(plan, total)), f"{MOST // 2} f(0) @ 0.0.0:a")
        plan = Plan(world, [("a", None, (((1, 7), 5),)), ("b", "a", ((None, (2, 3)),))], [("f", "b", "all")])
        self.assertEqual(str(estimate_form(plan, total)), "105 f(0) @ 0.0.0:b")

    def test_targets_without_people(self):
        for form in (Form(PLAIN), constant(PLAIN, (-7, 3))):
            for plan in (THREE, Plan(PLAIN, [("a", None, ((0,),))])):
                answer = guess_for(plan, form)
                self.assertEqual((answer.told(), answer.form), ("possible", form))
                self.assertTrue(answer.holds())

    def test_holds(self):
        total = target("sum(i: f(i))")
        good = estimate_form(THREE, total)
        answer = Possible(THREE, total, good)
        self.assertTrue(answer.holds())
        self.assertEqual((answer.told(), answer.is_yes, bool(answer)), ("possible", True, True))
        self.assertEqual(repr(answer), "Answer(possible)")
        self.assertEqual((answer.world, answer.plan, answer.target, answer.form), (PLAIN, THREE, total, good))
        other = World.plain(8)
        wrong = [
            2 * good, Form(PLAIN), good + constant(PLAIN, (1, 1)), total, target("sum(i: f(i))", other),
            Form(other), Form(PLAIN, [(((((0, 0),)), (("b",),), (("f", (0,)),)), (3, 1))]),
            plan_form(THREE, read_program("sum(i: sum(j: ([j@a] * f(i))))")).over(3),
        ]
        # The last one has the right mean, but it is no guess.
        self.assertEqual(mean(THREE, wrong[-1]), total)
        for form in wrong:
            with self.subTest(form=str(form)):
                answer = Possible(THREE, total, form)
                self.assertFalse(answer.holds())
                self.assertTrue(answer)
        self.assertFalse(Possible(THREE, 2 * total, good).holds())
        # Another guess than that of the document may be right, too.
        less = plan_form(THREE, read_program("sum(i: [i@a])")) - constant(PLAIN, (3, 1))
        self.assertTrue(Possible(THREE, total, good + less).holds())

    def test_errors(self):
        wished = plan_form(THREE, read_program("sum(i: ([i@a] * f(i)))"))
        for call in (guess_for, estimate_form):
            with self.assertRaises(UnlikeWorlds):
                call(THREE, target("sum(i: f(i))", World.plain(8)))
            with self.assertRaises(HasWishes):
                call(THREE, wished)
            with self.assertRaises(UnlikeWorlds):
                call(Plan(World.plain(8), [("a", None, ((3,),))]), wished)
        # HasWishes comes ahead of Barred.
        plan = Plan(PLAIN, [("a", None, ((3,),))])
        with self.assertRaises(HasWishes):
            estimate_form(plan, wished + target("sum(i: f(i))"))


class TestClosed(unittest.TestCase):
    def test_no_table_of_guesses_is_right(self):
        source = random.Random(491)
        checked = 0
        for plan, drawings in some_plans(source, 120, with_sights=True):
            form = random_target(source, plan.world)
            answer = guess_for(plan, form)
            if answer:
                continue
            checked += 1
            rows = answer.rows()
            populations = answer.populations()
            self.assertEqual(len(populations), 2 ** len(rows))
            # What is shown, beside the drawing, is which numbers the seen entries have: all others are 0.
            tables = {}
            signed = Fraction(0)
            for at, (chance, waves) in enumerate(drawings):
                seen = [its for its, _ in rows if is_seen(plan, waves, *its)]
                for sign, population in populations:
                    key = (at, tuple(population.number(*its) for its in seen))
                    guess = tables.setdefault(key, Fraction(source.randint(-50, 50), source.randint(1, 9)))
                    signed += sign * chance * guess
            self.assertEqual(signed, 0)
            numbers = [sign * form_number(form, population) for sign, population in populations]
            self.assertNotEqual(sum(numbers), 0)
        self.assertGreater(checked, 25)

    def test_populations_and_signs(self):
        rows = [(entry((0, 0)), 2), (entry((0, 1)), -3), (entry((0, 4)), 5)]
        answer = Closed(THREE, target("sum(i: f(i))"), rows)
        self.assertEqual(answer.rows(), rows)
        lots = [[], [0], [1], [0, 1], [2], [0, 2], [1, 2], [0, 1, 2]]
        wanted = [((-1) ** (3 - len(lot)), Population(PLAIN, [rows[at] for at in lot])) for lot in lots]
        self.assertEqual(answer.populations(), wanted)
        one = Closed(THREE, target("sum(i: f(i))"), rows[:1])
        self.assertEqual(one.populations(), [(-1, Population(PLAIN)), (1, Population(PLAIN, rows[:1]))])

    def test_barred_pairs(self):
        plan = Plan(PLAIN, [("a", None, ((1,),))], [("f", "a", "all")])
        square = target("sum(i: f(i))^2")
        answer = guess_for(plan, square)
        self.assertEqual([its for its, _ in answer.rows()], [entry((0, 0)), entry((0, 1))])
        self.assertTrue(answer.holds())
        self.assertEqual((answer.told(), answer.is_yes, bool(answer)), ("closed", False, False))
        self.assertEqual(repr(answer), "Answer(closed)")
        self.assertNotIsInstance(answer, Possible)
        with self.assertRaises(Barred) as caught:
            estimate_form(plan, square + target("sum(i: sum(j: sum(k: (f(i) * f(j) * f(k)))))"))
        self.assertEqual(caught.exception.web, web([(0, 0), (0, 1)], ("f", (0,)), ("f", (0,)), ("f", (1,))))

    def test_powers_that_need_other_numbers_than_1(self):
        # With the numbers 1 the factors of the powers of one entry add up to 0.
        plan = Plan(PLAIN, [("a", None, ((3,),))])
        for text in ("sum(i: (f(i)^2 + (-1 * f(i))))", "sum(i: (f(i) * (f(i) + -1) * (f(i) + -2) * (f(i) + -3)))"):
            answer = guess_for(plan, target(text))
            self.assertTrue(answer.holds())
            numbers = [number for _, number in answer.rows()]
            self.assertTrue(all(1 <= number <= 8 for number in numbers))
            self.assertNotIn(1, numbers)

    def test_right_and_wrong_rows(self):
        world = World([("all", (4, 3))], TRAITS)
        plan = Plan(world, [("a", None, ((2, 1),))], [("f", "a", "all"), ("even", "a", "all"), ("flag", "a", "all")])
        form = target("(sum(i: f(i))^2 + (sum(i: sum(j: even(i,j))) * 3) + sum(i: flag(i))^2)", world)
        one, two, far, last = (0, 0, 0), (0, 0, 1), (0, 1, 0), (0, 3, 2)
        pairs = [entry(one), entry(two)]
        good = [
            [(pairs[0], 1), (pairs[1], 1)], [(pairs[1], -7), (pairs[0], 10 ** 6)], [(("even", (one, two)), -10 ** 6)],
            [(("flag", (last,)), 1), (("flag", ((0, 3, 1),)), 1)],
        ]
        for rows in good:
            with self.subTest(rows=rows):
                answer = Closed(plan, form, rows)
                self.assertTrue(answer.holds())
                self.assertEqual(answer.rows(), rows)
                self.assertFalse(Closed(plan, Form(world), rows).holds())
        wrong = [
            [], [(pairs[0], 1)], [(pairs[0], 1), (entry(far), 1)], [(pairs[0], 0), (pairs[1], 1)],
            [(pairs[0], 10 ** 6 + 1), (pairs[1], 1)], [(pairs[0], 1), (pairs[0], 1)], [(("even", (two, one)), 1)],
            [(pairs[0], 1), (pairs[1], 1), (("flag", (one,)), 1)], [(("flag", (one,)), 2), (("flag", (two,)), 1)],
            [(("flag", (one,)), -1), (("flag", (two,)), 1)], [(("even", (one, far)), 1)], [(("g", (one, two)), 1)],
            [(pairs[0], 10 ** 31 - 1), (pairs[1], 1)], [(pairs[0], 1), (pairs[1], 1), (pairs[1], 2)],
        ]
        for rows in wrong:
            with self.subTest(rows=rows):
                self.assertFalse(Closed(plan, form, rows).holds())

    def test_signed_numbers_of_the_target(self):
        # Both entries are never seen together, but the numbers of the target add up to 0 with the signs.
        plan = Plan(PLAIN, [("a", None, ((1,),))], [("f", "a", "all")])
        rows = [(entry((0, 0)), 2), (entry((0, 1)), 3)]
        self.assertFalse(Closed(plan, target("sum(i: f(i)^3)"), rows).holds())
        self.assertTrue(Closed(plan, target("sum(i: f(i))^2"), rows).holds())
        self.assertTrue(Closed(plan, target("sum(i: f(i))^3"), rows).holds())
        self.assertFalse(Closed(plan, target("sum(i: f(i))^3"), [(rows[0][0], 3), (rows[1][0], -3)]).holds())
        source = random.Random(492)
        for its_plan, _ in some_plans(source, 60, 150, with_sights=True):
            form = random_target(source, its_plan.world)
            answer = guess_for(its_plan, form)
            if answer:
                continue
            changed = [(its, number if its[0] == "flag" else source.choice([-2, -1, 1, 2, 3]))
                       for its, number in answer.rows()]
            moved = Closed(its_plan, form, changed)
            signed = sum(sign * form_number(form, population) for sign, population in moved.populations())
            self.assertEqual(moved.holds(), signed != 0)

    def test_eight_and_nine_entries(self):
        traits = [(name, ends, False, False) for name, ends in zip("abcdef", (1, 1, 2, 2, 3, 3))]
        world = World([("all", (10 ** 30,))], traits)
        plan = Plan(world, [("w", None, ((3,),))], [(name, "w", "all") for name in "abcde"])
        one, two = (0, 0), (0, 1)
        entries = [("a", (one,)), ("b", (one,)), ("a", (two,)), ("c", (one, two)), ("c", (two, one)), ("d", (one, one)),
                   ("d", (two, two)), ("f", (one, one, two)), ("e", (one, two, one))]

        def form_with(many):
            pairs = [(name, tuple([one, two].index(person) for person in people)) for name, people in entries[:many]]
            return Form(world, [(web([one, two], *sorted(pairs)), (1, 10 ** 30 + 1))])

        for many, holds in [(7, False), (8, True), (9, False)]:
            for numbers in ([1] * many, [10 ** 6] * many, [-10 ** 6] * many, list(range(1, many + 1))):
                answer = Closed(plan, form_with(many), list(zip(entries, numbers)))
                self.assertEqual(answer.holds(), holds)
                self.assertEqual(len(answer.rows()), many)
        for number in (0, 10 ** 6 + 1, -10 ** 6 - 1, 10 ** 31 - 1):
            rows = list(zip(entries[:8], [1] * 7 + [number]))
            self.assertFalse(Closed(plan, form_with(8), rows).holds())
        self.assertEqual(len(Closed(plan, form_with(8), [(its, 1) for its in entries[:8]]).populations()), 256)
        answer = guess_for(plan, form_with(8))
        self.assertEqual((answer.told(), answer.holds(), len(answer.rows())), ("closed", True, 8))
        # Above the degree 8 there is an answer, but it need not hold.
        answer = guess_for(plan, form_with(9))
        self.assertEqual((answer.told(), [its for its, _ in answer.rows()]), ("closed", sorted(entries)))

    def test_targets_that_vanish_for_all_small_numbers(self):
        # The product of f(i) and of f(i) less each number from 1 to 8: its degree is 9.
        plan = Plan(PLAIN, [("a", None, ((3,),))])
        factors = [1]
        for root in range(9):
            factors = [low - root * high for low, high in zip([0, *factors], [*factors, 0])]
        rows = [(web([(0, 0)], *[("f", (0,))] * power), (factor, 1)) for power, factor in enumerate(factors) if power]
        form = Form(PLAIN, [row for row in rows if row[1] != (0, 1)])
        self.assertEqual([form.value(Population(PLAIN, [(entry((0, 3)), number)]))[0] for number in range(9)], [0] * 9)
        answer = guess_for(plan, form)
        self.assertEqual((answer.told(), answer.rows(), answer.holds()), ("closed", [(entry((0, 0)), 1)], False))
        self.assertTrue(Closed(plan, form, [(entry((0, 0)), 9)]).holds())
        self.assertTrue(Closed(plan, form, [(entry((0, 0)), -1)]).holds())

    def test_four_and_five_people(self):
        plan = Plan(PLAIN, [("a", None, ((3,),))], [("f", "a", "all")])
        form = target("sum(i: f(i))^4")
        rows = [(entry((0, at)), at + 1) for at in range(5)]
        self.assertTrue(Closed(plan, form, rows[:4]).holds())
        self.assertFalse(Closed(plan, form, rows[:3]).holds())
        self.assertFalse(Closed(plan, form, rows).holds())
        self.assertEqual(guess_for(plan, form).holds(), True)
        self.assertFalse(guess_for(plan, form))

    def test_copies(self):
        rows = [(entry((0, 0)), 2), (entry((0, 1)), -3)]
        plan = Plan(PLAIN, [("a", None, ((1,),))], [("f", "a", "all")])
        answer = Closed(plan=plan, target=target("sum(i: f(i))^2"), rows=rows)
        rows.pop()
        self.assertEqual(len(answer.rows()), 2)
        answer.rows().clear()
        answer.populations().clear()
        self.assertEqual((len(answer.rows()), len(answer.populations())), (2, 4))
        self.assertTrue(answer.holds())
        taken = Closed(plan, target("sum(i: f(i))^2"), tuple(answer.rows()))
        self.assertEqual(taken.rows(), answer.rows())


if __name__ == "__main__":
    unittest.main()
