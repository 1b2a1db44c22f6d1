"""Tests of fewtell.pages: the pages of plans, and plans read from them."""

import random
import unittest

from fewtell.errors import InvalidPage
from fewtell.pages import read_plan, write_plan
from fewtell.plans import Plan
from fewtell.worlds import World
from tests.by_hand import random_plan

TRAITS = [("f", 1, False, False), ("g", 2, False, False), ("even", 2, False, True), ("flag", 1, True, False),
          ("both", 3, True, True)]
MOST = 10 ** 30
WORLD = World([("north", (4, 3)), ("south", (5,))], TRAITS)
PLAN = Plan(WORLD, [("a", None, ((2, None), ((1, 3),))), ("b", "a", ((1, 3), (None,)))],
            [("f", "a", "all"), ("g", "b", "first"), ("even", "b", "any")])
PAGE = ("part north 4 3\npart south 5\ntrait f 1\ntrait g 2\ntrait even 2 even\ntrait flag 1 flag\ntrait both 3 flag even\n"
        "wave a - 2,*;1/3\nwave b a 1,3;*\nsight f a all\nsight g b first\nsight even b any\n")
LINES = PAGE.splitlines()


def page(*lines):
    return "".join(f"{line}\n" for line in lines)


def changed(at, line):
    """The lines of the page with another line in one place."""
    return page(*LINES[:at], line, *LINES[at + 1:])


class TestWrite(unittest.TestCase):
    def test_pages(self):
        self.assertEqual(write_plan(plan=PLAN), PAGE)
        self.assertEqual(read_plan(text=PAGE), PLAN)
        plain = Plan(World.plain(9), [("a", None, ((3,),))])
        self.assertEqual(write_plan(plain), "part all 9\ntrait f 1\nwave a - 3\n")
        self.assertEqual(read_plan("part all 9\ntrait f 1\nwave a - 3\n"), plain)

    def test_random_plans(self):
        source = random.Random(741)
        for _ in range(200):
            parts = [(name, tuple(source.choice([1, 2, 7, MOST]) for _ in range(source.randint(1, 3))))
                     for name in source.sample(["all", "north", "wave", "abcdefgh"], source.randint(1, 3))]
            traits = [(name, source.randint(1, 3), source.random() < 0.5, source.random() < 0.5)
                      for name in source.sample(["f", "part", "flag", "even", "abcdefgh", "x"], source.randint(1, 6))]
            plan = random_plan(source, World(parts, traits))
            text = write_plan(plan)
            self.assertEqual(read_plan(text), plan)
            self.assertEqual(write_plan(read_plan(text)), text)
            self.assertEqual(text.count("\n"), len(parts) + len(traits) + len(plan) + len(plan.sights()))

    def test_bounds(self):
        world = World([(name * 8, (MOST, 1, MOST)) for name in "abc"],
                      [(name * 8, 3, True, True) for name in "defghi"])
        hows = ((MOST, 0, (1, 10 ** 31 - 1)), ((10 ** 31 - 2, 10 ** 31 - 1), None, None), (None, (1, 2), MOST))
        waves = [("x" * 8, None, hows), ("y" * 8, None, hows), ("z" * 8, None, hows)]
        sights = [(name * 8, wave * 8, ends) for name in "def" for wave in "xyz" for ends in ("all",)][:8]
        plan = Plan(world, waves, sights)
        text = write_plan(plan)
        self.assertLess(len(text), 2000)
        self.assertEqual(read_plan(text), plan)
        self.assertIn(f"part aaaaaaaa {MOST} 1 {MOST}\n", text)
        self.assertIn(f"wave xxxxxxxx - {MOST},0,1/{10 ** 31 - 1};{10 ** 31 - 2}/{10 ** 31 - 1},*,*;*,1/2,{MOST}\n", text)


class TestRead(unittest.TestCase):
    def refused(self, text, line):
        with self.subTest(text=text), self.assertRaises(InvalidPage) as caught:
            read_plan(text)
        self.assertEqual((caught.exception.line, caught.exception.code), (line, "InvalidPage"))

    def test_values_that_are_no_strings(self):
        for value in (None, True, False, 0, 5, (), [], (PAGE,), [PAGE], LINES):
            self.refused(value, 0)

    def test_lines_without_their_form(self):
        wrong = {
            0: ["part", "part north", "part north ", "part  north 4 3", "part north 4  3", "part north 4 3 ", " part north 4",
                "part North 4", "part nort1 4", "part ninechars 4", "part north 04", "part north -4", "part north +4",
                "part north 4.0", "part north four", "part north 4,3", "Part north 4", "parts north 4", "part - 4", "part 4 4",
                f"part north {10 ** 31}", "part north 00", "", " ", "\t", "part\tnorth 4", "north 4 3"],
            2: ["trait", "trait f", "trait f ", "trait f x", "trait F 1", "trait f 01", "trait f -1", "trait f 1 1", "trait f 1 ",
                "trait f 1 even flag", "trait f 1 flag flag", "trait f 1 even even", "trait f 1 flag even even", "trait f flag",
                "trait f 1  flag", "trait f 1 Flag", "trait 1 f", "trait f(1) 1", "trait ninechars 1", "trait f 1 flags", ""],
            7: ["wave", "wave a", "wave a -", "wave a - ", "wave a 2,*;1/3", "wave A - 2,*;1/3", "wave a b c 2,*;1/3",
                "wave a - 2,*;1/3 ", "wave a  - 2,*;1/3", "wave a - 2, *;1/3", "wave a - 2,*; 1/3", "wave a - 2,*;2/6",
                "wave a - 2,*;1/1", "wave a - 2,*;3/1", "wave a - 2,*;0/1", "wave a - 2,*;0/3", "wave a - 2,*;1/0", "wave a - 2,*;-1/3",
                "wave a - 2,*;1/-3", "wave a - 2,*;1/3/5", "wave a - 2,*;1/03", "wave a - 02,*;1/3", "wave a - 2,**;1/3", "wave a - 2,;1/3",
                "wave a - 2,*;", "wave a - ;1/3", "wave a - ,", "wave a - 2,*;1/", "wave a - 2,*;/3", "wave a - 2,*;x", "wave a - 2,-;1/3",
                f"wave a - 2,*;1/{10 ** 31}", f"wave a - {10 ** 31},*;1/3", "wave a None 2,*;1/3", "wave a -- 2,*;1/3",
                "wave a Up 2,*;1/3", "wave a ninechars 2,*;1/3", "wave a all people 2,*;1/3", ""],
            9: ["sight", "sight f", "sight f a", "sight f a ", "sight f a all ", "sight f  a all", "sight f a all all", "sight F a all",
                "sight f A all", "sight f a All", "sight f a last", "sight f - all", "sight f a 1", "sight f ninechars all",
                "sight ninechars a all", "sights f a all", ""],
        }
        for at, lines in wrong.items():
            for line in lines:
                self.refused(changed(at, line), at)
                # Nothing behind the line is looked at.
                self.refused(page(*LINES[:at], line, "nothing"), at)

    def test_order_of_the_kinds(self):
        for text, line in [
            (page(LINES[2], *LINES), 0), (page(LINES[7], *LINES), 0), (page(LINES[9], *LINES), 0),
            (page(*LINES[:3], LINES[1], *LINES[3:]), 3), (page(*LINES, LINES[0]), 12), (page(*LINES, "trait x 1"), 12),
            (page(*LINES, "wave c - 2,*;*"), 12), (page(*LINES[:8], "trait x 1", *LINES[8:]), 8),
            (page(*LINES[:8], "part x 1", *LINES[8:]), 8), (page(*LINES[:2], *LINES[7:]), 2),
            (page(*LINES[:2], *LINES[9:]), 2), (page(*LINES[:7], *LINES[9:]), 7), (page(*LINES[2:]), 0),
            (page(LINES[0], LINES[9], *LINES[1:]), 1), (page(*LINES[:2], LINES[7], *LINES[2:]), 2),
        ]:
            self.refused(text, line)

    def test_line_feeds(self):
        self.refused(PAGE[:-1], 11)
        self.refused(PAGE + "sight flag a all", 12)
        self.refused(PAGE + " ", 12)
        self.refused(PAGE + "\n", 12)
        self.refused("\n" + PAGE, 0)
        self.refused("part all 9\ntrait f 1\nwave a - 3", 2)
        self.refused("part all 9", 0)
        self.refused("part all 9\ntrait f 1", 1)
        self.refused(PAGE.replace("\n", "\n\n"), 1)
        # A line that is wrong ahead of it counts first.
        self.refused("part all x\ntrait f 1\nwave a - 3", 0)

    def test_no_line_for_a_wave(self):
        self.refused("", 0)
        self.refused("part all 9\n", 1)
        self.refused("part all 9\npart b 9\n", 2)
        self.refused("part all 9\ntrait f 1\n", 2)
        self.refused("part all 0\ntrait f 7\n", 2)
        self.refused(page(*LINES[:7]), 7)

    def test_parts_and_traits_that_the_world_refuses(self):
        for line in ("part south 4", "part x 0", "part x 1 0", "part x 1 1 1 1", f"part x {MOST + 1}", f"part x {10 ** 31 - 1}"):
            self.refused(page(LINES[1], line, *LINES[2:]), 1)
        self.refused(changed(0, "part north 0 3"), 0)
        self.refused(page(*LINES[:2], "part c 1", "part d 1", *LINES[2:]), 3)
        self.refused(page(*LINES[:2], "part c 0", "part d 1", *LINES[2:]), 2)
        for line in ("trait f 1", "trait x 0", "trait x 4", f"trait x {10 ** 31 - 1}", "trait f 2 flag even"):
            self.refused(changed(4, line), 4)
        self.refused(page(*LINES[:7], "trait x 1", "trait y 1", *LINES[7:]), 8)
        # Parts come first, then traits, and then waves and sights.
        self.refused(page("part x 0", "trait f 9", "wave a b 1;1", "sight x y all"), 0)
        self.refused(page("part x 1", "trait f 9", "wave a b 1;1", "sight x y all"), 1)
        self.refused(page("part x 1", "trait f 1", "wave a b 1;1", "sight x y all"), 2)
        self.refused(page("part x 1", "trait f 1", "wave a - 1", "sight x y all"), 3)
        self.refused(page("part x 0", "trait f 9", "wave a b 1;1", "sight x y none"), 3)

    def test_waves_and_sights_that_the_plan_refuses(self):
        for line in ("wave a a 1,3;*", "wave b b 1,3;*", "wave b c 1,3;*", "wave b a 1,3", "wave b a 1,3;*;*", "wave b a 1;*",
                     "wave b a 1,3;*,*", "wave b a 3,3;*", "wave b a 1,4;*", "wave b a 1,3;1", "wave b a 1,3;3/2", "wave b - 5,1;1",
                     f"wave b a {10 ** 31 - 1},3;*"):
            self.refused(changed(8, line), 8)
        more = ["wave c - 1,1;1", "wave d - 1,1;1"]
        self.refused(page(*LINES[:9], *more, *LINES[9:]), 10)
        self.refused(page(*LINES[:9], "wave a - 1,1;1", more[1], *LINES[9:]), 9)
        for line in ("sight x a all", "sight g c first", "sight f a all", "sight even a first", "sight both b first"):
            self.refused(changed(10, line), 10)
        sights = [f"sight {trait} {wave} {ends}" for trait in ("f", "g") for wave in "ab" for ends in ("all", "first", "any")]
        self.assertEqual(len(read_plan(page(*LINES[:9], *sights[:8])).sights()), 8)
        self.refused(page(*LINES[:9], *sights[:9]), 17)
        self.refused(page(*LINES[:9], *sights), 17)
        self.refused(page(*LINES[:9], *sights[:4], sights[0], *sights[4:9]), 13)


if __name__ == "__main__":
    unittest.main()
