"""Tests of fewtell.desk: lines and their answers."""

import unittest

from fewtell.desk import Desk
from fewtell.drawings import Drawing
from fewtell.forms import form_of
from fewtell.guesses import mean, plan_form
from fewtell.plans import Plan
from fewtell.ratios import ratio_text
from fewtell.single import only_guess
from fewtell.surveys import Survey
from fewtell.texts import read_program
from fewtell.worlds import World

TRAITS = [("f", 1, False, False), ("g", 2, False, False), ("even", 2, False, True), ("flag", 1, True, False)]
WORLD = World([("all", (9,)), ("b", (2, 10 ** 30))], TRAITS)
PLAN = Plan(WORLD, [("a", None, ((3,), (1, 2)))],
            [("f", "a", "all"), ("g", "a", "first"), ("even", "a", "any"), ("flag", "a", "all")])
FAR = (1, 1, 10 ** 30 - 1)
ROW = [(0, 2), (0, 5), (0, 7), (1, 1), (1, 1, 0), FAR]
TRIPLE = "sum(i: sum(j: sum(k: (((f(i) * f(j)) * f(k)) * [i:all]))))"


class DeskCase(unittest.TestCase):
    def setUp(self):
        self.survey = Survey(PLAN, Drawing(PLAN, [ROW]))
        self.desk = Desk(self.survey)

    def says(self, *pairs):
        for line, answer in pairs:
            with self.subTest(line=line):
                self.assertEqual(self.desk.say(line), answer)

    def invalid(self, *lines):
        before, history = self.survey.twin(), self.survey.history()
        self.says(*[(line, "invalid") for line in lines])
        self.assertEqual((self.survey, self.survey.history()), (before, history))


class TestExample(unittest.TestCase):
    def test_the_last_example(self):
        plan = Plan(World.plain(9), [("a", None, ((3,),))], [("f", "a", "all")])
        desk = Desk(Survey(plan, Drawing(plan, [[(0, 2), (0, 5), (0, 7)]])))
        lines = ["keep total sum(i: f(i))", "tell f 0.5 4", "estimate total", "only total", "tell f 0.6 1"]
        answers = [desk(line) for line in lines]
        self.assertEqual(answers, ["ok", "ok", "12", "one", "error Unseen"])
        self.assertEqual(desk.log(), list(zip(lines, answers)))


class TestCommands(DeskCase):
    def test_tell_and_back(self):
        self.says(
            ("told", "0"), ("tell f 0.2 4", "ok"), ("tell even 0.6,0.2 -3", "ok"), ("tell g 0.2,1.0.7 1000000", "ok"),
            ("tell flag 1.1.0 1", "ok"), (f"tell f 1.1.{10 ** 30 - 1} 0", "ok"), ("told", "5"), ("tell f 0.2 -1000000", "ok"),
            ("told", "5"), ("back even 0.2,0.6", "ok"), ("told", "4"),
        )
        wanted = [(("f", ((0, 2),)), -10 ** 6), (("flag", ((1, 1, 0),)), 1), (("g", ((0, 2), (1, 0, 7))), 10 ** 6)]
        self.assertEqual(self.survey.told().rows(), wanted)
        self.assertTrue(self.survey.is_told("f", (FAR,)))
        self.assertEqual(self.survey.history(), (7, 0))

    def test_keep_drop_and_names(self):
        self.says(
            ("names", "none"), ("keep total sum(i: f(i))", "ok"), ("keep b (1/2 + sum(i: flag(i)))", "ok"),
            ("names", "b total"), ("drop total", "ok"), ("names", "b"), ("undo", "ok"), ("names", "b total"), ("redo", "ok"),
            ("names", "b"), ("drop b", "ok"), ("names", "none"),
        )
        self.desk("keep total sum(i: f(i))")
        self.assertEqual(self.survey.target_named("total"), form_of(WORLD, read_program("sum(i: f(i))")))

    def test_undo_and_redo(self):
        self.says(("undo", "error NothingLeft"), ("redo", "error NothingLeft"), ("tell f 0.2 4", "ok"), ("undo", "ok"),
                  ("told", "0"), ("redo", "ok"), ("told", "1"), ("redo", "error NothingLeft"))

    def test_estimate(self):
        self.says(("keep total sum(i: ([i:all] * f(i)))", "ok"), ("estimate total", "0"), ("tell f 0.2 4", "ok"),
                  ("tell f 0.5 -7", "ok"), ("estimate total", "-9"), ("keep part (1/7 * sum(i: ([i:all] * f(i)^2)))", "ok"),
                  ("estimate part", "195/7"), ("keep far sum(i: f(i))", "ok"), ("tell f 1.1.0 1", "ok"),
                  ("estimate far", str(10 ** 30 - 9)))
        self.assertEqual(self.survey.computed, 4)
        for name in self.survey.names():
            self.says((f"estimate {name}", ratio_text(self.survey.estimate(name))))

    def test_mean(self):
        texts = ["sum(i: ([i@a] * f(i)))", "0", "(sum(i: [i@a])^2 + 1/3)", "sum(i: sum(j: ([i@a] * g(i,j))))", "-2/3"]
        for text in texts:
            self.says((f"mean {text}", str(mean(PLAN, plan_form(PLAN, read_program(text))))))
        self.says(("mean 0", "0"), ("mean sum(i: ([i:all] * [i@a]))", "3 1"),
                  ("mean sum(i: ([i:all] * [i@a] * f(i)))", "1/3 f(0) @ 0.0"), ("mean sum(i: [i@b])", "error InvalidProgram"),
                  ("mean sum(i: f(j))", "error InvalidProgram"), ("mean sum(i: f(i)", "error InvalidText"),
                  (f"mean (sum(i: f(i))^4 * {TRIPLE})", "error TooWide"),
                  ("mean sum(i: ((f(i)^4 * f(i)^4) * f(i)))", "error TooLarge"),
                  ("mean ((1 + 2 + 3 + 4)^3 + sum(i: f(i)))", "error TooMany"))

    def test_only(self):
        self.says(("keep total sum(i: f(i))", "ok"), ("only total", "unsaid"),
                  ("only other", "error UnknownName"))
        chance = Plan(WORLD, [("a", None, ((3,), ((1, 2), 1)))], [("f", "a", "all")])
        desk = Desk(Survey(chance, Drawing(chance, [ROW[:3]])))
        self.assertEqual([desk(line) for line in ("keep total sum(i: f(i))", "only total")], ["ok", "another"])
        steady = Plan(WORLD, PLAN.waves(), [("f", "a", "all")])
        desk = Desk(Survey(steady, Drawing(steady, [ROW])))
        self.assertEqual([desk(line) for line in ("keep total sum(i: f(i))", "only total")], ["ok", "one"])
        two = Plan(WORLD, [*PLAN.waves(), ("b", None, ((4,), (1, 1)))], [("f", "a", "all"), ("f", "b", "all")])
        second = [(0, 0), (0, 1), (0, 2), (0, 3), (1, 0), (1, 0, 5)]
        desk = Desk(Survey(two, Drawing(two, [ROW, second])))
        lines = ["keep total sum(i: f(i))", "only total", "keep large sum(i: (f(i)^4 * f(i)))", "only large",
                 "keep wide sum(i: (([i:all] * f(i)) * sum(j: ((([j:all] * f(j)) * (1 + (-1 * [i=j]))) * "
                 "sum(k: ((([k:all] * f(k)) * (1 + (-1 * [i=k]))) * (1 + (-1 * [j=k]))))))))", "only wide"]
        self.assertEqual([desk(line) for line in lines], ["ok", "another", "ok", "error TooLarge", "ok", "error TooWide"])
        self.assertEqual(desk("only total"), only_guess(two, desk.survey().target_named("total")).told())


class TestErrors(DeskCase):
    def test_errors_of_the_survey(self):
        self.says(
            ("tell h 0.2 4", "error UnknownName"), ("tell F 0.2 4", "error UnknownName"), ("tell f() 0.2 4", "error UnknownName"),
            ("tell f 0.2,0.2 4", "error InvalidEntry"), ("tell f 0 4", "error InvalidEntry"), ("tell f 0.9 4", "error InvalidEntry"),
            ("tell f 2.0 4", "error InvalidEntry"), ("tell f 0.2.0 4", "error InvalidEntry"), ("tell g 0.2 4", "error InvalidEntry"),
            (f"tell f 0.{10 ** 31 - 1} 4", "error InvalidEntry"), ("tell f 0.3 4", "error Unseen"), ("tell g 0.3,0.2 4", "error Unseen"),
            ("tell f 0.2 1000001", "error InvalidNumber"), ("tell f 0.2 -1000001", "error InvalidNumber"),
            (f"tell f 0.2 {10 ** 31 - 1}", "error InvalidNumber"), ("tell flag 0.2 2", "error InvalidNumber"),
            ("back h 0.2", "error UnknownName"), ("back f 0.2,0.2", "error InvalidEntry"), ("back f 0.2", "error NotTold"),
            ("back f 0.3", "error NotTold"), ("drop total", "error UnknownName"), ("drop X!", "error UnknownName"),
            ("estimate total", "error UnknownName"), ("only total", "error UnknownName"), ("estimate 1/2", "error UnknownName"),
        )
        self.assertEqual((len(self.survey), self.survey.history()), (0, (0, 0)))

    def test_text_and_form_come_ahead_of_the_name(self):
        self.says(
            ("keep Total sum(i: f(i)", "error InvalidText"), ("keep Total sum(i: h(i))", "error InvalidProgram"),
            ("keep Total sum(i: ([i@a] * f(i)))", "error InvalidProgram"), ("keep Total sum(i: f(i))", "error InvalidName"),
            ("keep ninechars 1", "error InvalidName"), ("keep total sum(i: sum(j: f(i)))", "ok"),
            ("keep total sum(i: f(i)", "error InvalidText"), ("keep total sum(i: f(i))", "error DuplicateName"),
            ("keep total sum(i: sum(j: g(j,i)))^2", "error DuplicateName"), ("keep other sum(i: f(i))^4", "error Barred"),
            (f"keep Other (sum(i: f(i))^4 * {TRIPLE})", "error TooWide"), ("keep total  1", "error InvalidText"),
            ("keep total 1 ", "error InvalidText"), ("keep total x y  z", "error InvalidText"),
            ("keep Total sum(i: (((((((((f(i)^4)^4)^4)^4)^4)^4)^4)^4)^4)^4)", "error InvalidProgram"),
        )
        for name in "abcdefg":
            self.says((f"keep {name} 1", "ok"))
        self.says(("keep h sum(i: f(i))^4", "error TooMany"), ("keep h )", "error InvalidText"), ("keep H 1", "error InvalidName"),
                  ("names", "a b c d e f g total"))

    def test_too_many_told(self):
        for number in range(30):
            self.says((f"tell g 0.{(2, 5, 7)[number // 10]},{('0.' + str(number % 10)) if number % 10 < 9 else '1.0.5'} 0", "ok"))
        self.says(("told", "30"), ("tell f 0.2 1", "error TooMany"), ("tell g 0.2,0.2 1", "ok"))


class TestInvalid(DeskCase):
    def test_lines_that_are_no_commands(self):
        self.invalid("", " ", "x", "Told", "tells f 0.2 4", "help", "told?", "undo!", "tell:f", "log", "redraw", "keep", "tell")

    def test_words_that_are_missing_or_too_many(self):
        self.invalid(
            "undo 1", "redo x", "names all", "told f", "undo ", " undo", "told ", "names ", "redo  ", "tell f 0.2", "tell f",
            "tell f 0.2 4 5", "back f", "back f 0.2 4", "back", "drop", "drop ", "drop a b", "estimate", "estimate ",
            "estimate a b", "only", "only ", "only a b", "mean", "mean ", "keep a", "keep a ", "keep ", "keep  ", "keep  1",
        )

    def test_empty_words(self):
        self.invalid(
            "tell  f 0.2 4", "tell f  0.2 4", "tell f 0.2  4", " tell f 0.2 4", "tell f 0.2 4 ", "back  f 0.2", "back f 0.2 ",
            "keep  total 1", " keep total 1", "drop  total", "drop total ", "estimate  total", "only total ", " mean 1", "tell f 0.2 ",
        )
        self.says(("mean  1", "error InvalidText"), ("mean   ", "error InvalidText"), ("mean 1 ", "error InvalidText"))

    def test_people_and_numbers(self):
        people = ["", ".", "0.", ".2", "0..2", "0.2,", ",0.2", "0.2,,0.2", "00.2", "0.02", "-0.2", "0.-2", "+0.2", "0.2.x", "x",
                  "0:2", "(0.2)", f"0.{10 ** 31}", "0.2;0.2", "1e1.2", "0.2, 0.2", "0_0.2"]
        self.invalid(*[f"tell f {word} 4" for word in people])
        self.invalid(*[f"back f {word}" for word in people])
        numbers = ["", "-", "-0", "+4", "04", "-04", "--4", "4.0", "4/1", "x", "4x", str(10 ** 31), str(-10 ** 31), "1_0", "00"]
        self.invalid(*[f"tell f 0.2 {word}" for word in numbers])
        # Such a line has its form, whatever the trait and the people are.
        self.says(("tell ! 5 4", "error UnknownName"), ("back 1 0", "error UnknownName"), (f"back f {10 ** 31 - 1}", "error InvalidEntry"))


class TestDesk(DeskCase):
    def test_the_log(self):
        lines = ["told", "nonsense", "tell f 0.2 4", "tell f 0.3 4", "", "told", "told"]
        answers = ["0", "invalid", "ok", "error Unseen", "invalid", "1", "1"]
        self.assertEqual(len(self.desk), 0)
        self.assertEqual(self.desk.log(), [])
        for line, answer in zip(lines, answers):
            self.assertEqual(self.desk(line=line) if line == "told" else self.desk.say(line=line), answer)
        self.assertEqual(self.desk.log(), list(zip(lines, answers)))
        self.assertEqual(len(self.desk), 7)
        self.desk.log().clear()
        self.assertEqual(len(self.desk.log()), 7)

    def test_the_very_survey(self):
        self.assertIs(self.desk.survey(), self.survey)
        self.desk("tell f 0.2 4")
        self.assertEqual(len(self.survey), 1)
        self.survey.tell("f", ((0, 5),), 4)
        self.says(("told", "2"), ("undo", "ok"), ("told", "1"))
        other = Desk(survey=self.survey)
        other("undo")
        self.says(("told", "0"))
        self.assertEqual((len(self.desk), len(other)), (5, 1))

    def test_lines_within_trials(self):
        def action(survey):
            self.assertIs(survey, self.desk.survey())
            return [self.desk(line) for line in ("tell f 0.2 4", "keep total sum(i: f(i))", "names", "undo", "undo", "undo")]

        self.assertEqual(self.survey.tried(action), ["ok", "ok", "total", "ok", "ok", "error NothingLeft"])
        self.says(("told", "0"), ("names", "none"), ("redo", "error NothingLeft"))
        self.assertEqual(len(self.desk), 9)

    def test_surveys_that_are_redrawn(self):
        self.desk("keep total sum(i: ([i:all] * f(i)))")
        self.desk("tell f 0.2 4")
        self.says(("estimate total", "12"))
        larger = Plan(WORLD, [("a", None, ((4,), (1, 2)))], PLAN.sights())
        self.survey.redraw(larger, Drawing(larger, [[*ROW, (0, 8)]]))
        self.says(("estimate total", "9"), ("tell f 0.8 4", "ok"), ("estimate total", "18"), ("mean sum(i: ([i:all] * [i@a]))", "4 1"))


if __name__ == "__main__":
    unittest.main()
