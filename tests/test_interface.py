"""Tests that the interface of the document stands as it is written: files, names, parameters, methods, properties."""

import importlib
import inspect
import unittest

FUNCTIONS = {
    "ratios": ["ratio(top, bottom=1)", "plus(one, other)", "minus(one, other)", "times(one, other)", "over(one, other)",
               "is_less(one, other)", "is_ratio(value)", "ratio_text(value)"],
    "worlds": ["is_name(value)"],
    "programs": ["check_program(world, value, *, waves=())", "width_of(program)", "degree_of(program)", "products_of(program)"],
    "texts": ["program_text(program)", "read_program(text)"],
    "webs": ["is_web(world, value, *, waves=())", "standard(world, web)", "seatings(world, web)", "web_entries(web)",
             "web_text(web)"],
    "forms": ["form_of(world, program)", "constant(world, value)"],
    "alike": ["compare(world, one, other)", "parting(form)"],
    "guesses": ["plan_form(plan, program)", "guess(plan, program)", "is_guess(plan, form)", "mean(plan, form)",
                "mean_given(plan, form, wave)", "is_right(plan, form, target)"],
    "possible": ["sight(plan, web)", "seen_web(plan, web)", "guess_for(plan, target)", "estimate_form(plan, target)"],
    "spreads": ["spread(plan, form)", "error(plan, form, target)"],
    "single": ["is_steady(plan)", "only_guess(plan, target)"],
    "levels": ["level_numbers(form, trait)", "top(form, trait)", "never_below(form, trait)", "never_more(one, other, trait)",
               "greatest_ratio(one, other, trait)"],
    "drawings": ["all_drawings(plan)"],
    "pages": ["write_plan(plan)", "read_plan(text)"],
}
# For each class what it is made of, its properties, its methods, and its class values.
CLASSES = {
    "worlds.World": ["(parts, traits)", [], ["parts()", "traits()", "part_named(name)", "trait_named(name)", "depth(part)",
                     "size(part)", "is_person(value)", "meet(one, other)", "entry(trait, people)", "all_people()", "__len__()",
                     "__eq__(other)", "__repr__()"], {"MOST_PARTS": 3, "MOST_TRAITS": 6}],
    "populations.Population": ["(world, rows=())", ["world"], ["rows()", "number(trait, people)",
                               "with_number(trait, people, value)", "people()", "moved(one, other)", "__eq__(other)", "__len__()",
                               "__repr__()"], {"MOST": 30}],
    "forms.Form": ["(world, terms=())", ["world", "width", "degree"], ["terms()", "factor(web)", "over(number)",
                   "value(population)", "__add__(other)", "__sub__(other)", "__neg__()", "__mul__(other)", "__rmul__(other)",
                   "__eq__(other)", "__len__()", "__bool__()", "__contains__(x)", "__str__()", "__repr__()"], {}],
    "alike.Answer": ["(world)", ["world", "is_yes"], ["told()", "holds()", "__bool__()", "__repr__()"], {}],
    "alike.Alike": ["(world, one, other)", ["is_yes", "one", "other"], ["told()", "holds()"], {}],
    "alike.Apart": ["(world, one, other, population)", ["one", "other", "population"], ["told()", "holds()"], {}],
    "plans.Plan": ["(world, waves, sights=())", ["world"], ["waves()", "sights()", "names()", "roots(wave)", "least(wishes)",
                   "chance(web)", "__eq__(other)", "__len__()", "__repr__()"], {}],
    "possible.Possible": ["(plan, target, form)", ["is_yes", "plan", "target", "form"], ["told()", "holds()"], {}],
    "possible.Closed": ["(plan, target, rows)", ["plan", "target"], ["told()", "rows()", "populations()", "holds()"], {}],
    "single.One": ["(plan, target, form)", [], ["told()", "holds()"], {}],
    "single.Another": ["(plan, target, form, other)", ["other"], ["told()", "holds()"], {}],
    "single.Unsaid": ["(plan, target, form)", [], ["told()", "holds()"], {}],
    "levels.Blocks": ["(world, rows)", ["world"], ["rows()", "value(form, trait)"], {}],
    "levels.Never": ["(world, form, trait)", ["is_yes", "form", "trait"], ["told()", "holds()"], {}],
    "levels.Below": ["(world, form, trait, blocks)", ["form", "trait", "blocks"], ["told()", "holds()"], {}],
    "drawings.Drawing": ["(plan, rows)", ["plan"], ["nodes(wave)", "people(wave)", "has(wave, person)", "sees(trait, people)",
                         "chance()", "value(form, population)", "__eq__(other)", "__repr__()"], {"MOST": 24}],
    "surveys.Survey": ["(plan, drawing)", ["plan", "drawing", "computed", "in_trial"], ["told()", "tell(trait, people, value)",
                       "tell_all(*rows)", "take_back(trait, people)", "is_told(trait, people)", "keep(name, target)", "drop(name)",
                       "names()", "target_named(name)", "estimate(name)", "kept()", "redraw(plan, drawing)", "undo()", "redo()",
                       "history()", "twin()", "tried(action)", "__len__()", "__eq__(other)", "__repr__()"], {"MOST": 8}],
    "desk.Desk": ["(survey)", [], ["say(line)", "__call__(line)", "survey()", "log()", "__len__()"], {}],
}
BASES = {"Alike": "Answer", "Apart": "Answer", "Possible": "Answer", "Closed": "Answer", "One": "Possible", "Another": "Possible",
         "Unsaid": "Possible", "Never": "Answer", "Below": "Answer"}
VALUES = {"ratios": {"ZERO": (0, 1), "ONE": (1, 1)}, "programs": {"MOST_PLACES": 4, "MOST_DEGREE": 8, "MOST_PRODUCTS": 60}}


def module(name):
    return importlib.import_module(f"fewtell.{name}")


def without_self(function):
    """The parameters of a method as they are written, without the first one."""
    found = inspect.signature(function)
    return str(found.replace(parameters=list(found.parameters.values())[1:]))


class TestInterface(unittest.TestCase):
    def test_functions(self):
        for place, rows in FUNCTIONS.items():
            for row in rows:
                name = row.partition("(")[0]
                function = getattr(module(place), name)
                with self.subTest(place=place, name=name):
                    self.assertEqual(f"{name}{inspect.signature(function)}", row)
                    self.assertEqual(function.__module__, f"fewtell.{place}")

    def test_classes(self):
        for path, (made, properties, methods, values) in CLASSES.items():
            place, name = path.split(".")
            found = getattr(module(place), name)
            with self.subTest(name=name):
                self.assertEqual(found.__module__, f"fewtell.{place}")
                self.assertEqual(without_self(found.__init__), made)
                self.assertEqual(found.__base__.__name__, BASES.get(name, "object"))
                for row in properties:
                    self.assertIsInstance(vars(found)[row], property)
                for row in methods:
                    method = row.partition("(")[0]
                    self.assertEqual(method + without_self(vars(found)[method]), row)
                for row, value in values.items():
                    self.assertEqual(vars(found)[row], value)

    def test_the_plain_world(self):
        plain = vars(module("worlds").World)["plain"]
        self.assertIsInstance(plain, classmethod)
        self.assertEqual(str(inspect.signature(plain.__func__)), "(cls, *sizes)")

    def test_values(self):
        for place, rows in VALUES.items():
            for name, value in rows.items():
                self.assertEqual(getattr(module(place), name), value)

    def test_generators(self):
        self.assertTrue(inspect.isgeneratorfunction(module("drawings").all_drawings))
        self.assertTrue(inspect.isgeneratorfunction(module("worlds").World.all_people))


if __name__ == "__main__":
    unittest.main()
