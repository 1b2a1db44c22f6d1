"""Tests of fewtell.texts: programs written and read."""

import math
import random
import unittest

from fewtell.errors import InvalidText
from fewtell.texts import program_text, read_program

MOST = 10 ** 9 - 1
ONE = ("num", 1, 1)
F = ("trait", "f", ("i",))
ROWS = [
    ("3", ("num", 3, 1)), ("0", ("num", 0, 1)), ("-2", ("num", -2, 1)), ("1/2", ("num", 1, 2)),
    ("-7/3", ("num", -7, 3)), ("10", ("num", 10, 1)), ("999999999", ("num", MOST, 1)),
    ("-999999999/999999998", ("num", -MOST, MOST - 1)), ("1/999999999", ("num", 1, MOST)), ("20/21", ("num", 20, 21)),
    ("f(i)", F), ("g(i,j)", ("trait", "g", ("i", "j"))), ("h(i,j,i)", ("trait", "h", ("i", "j", "i"))),
    ("abcdefgh(stuvwxyz)", ("trait", "abcdefgh", ("stuvwxyz",))), ("sum(i)", ("trait", "sum", ("i",))),
    ("sum(i,j,k)", ("trait", "sum", ("i", "j", "k"))), ("sum(sum)", ("trait", "sum", ("sum",))),
    ("[i=j]", ("same", "i", "j")), ("[i~j:0]", ("near", 0, "i", "j")), ("[i~j:3]", ("near", 3, "i", "j")),
    ("[i:north]", ("part", "north", "i")), ("[i@a]", ("wave", "a", "i")),
    ("[abcdefgh@stuvwxyz]", ("wave", "stuvwxyz", "abcdefgh")),
    ("sum(i: 3)", ("sum", "i", ("num", 3, 1))), ("sum(i: sum(j: 1))", ("sum", "i", ("sum", "j", ONE))),
    ("sum(sum: sum(sum))", ("sum", "sum", ("trait", "sum", ("sum",)))),
    ("(f(i) + 1)", ("plus", F, ONE)), ("(1 + f(i) + -1)", ("plus", ONE, F, ("num", -1, 1))),
    ("(1 + 1 + 1 + 1 + 1 + 1 + 1 + 1)", ("plus", *[ONE] * 8)), ("(f(i) * 1)", ("times", F, ONE)),
    ("(1 * 1 * 1 * 1 * 1 * 1 * 1 * 1)", ("times", *[ONE] * 8)),
    ("(1 + (1 * 1))", ("plus", ONE, ("times", ONE, ONE))), ("((1 + 1) * 1)", ("times", ("plus", ONE, ONE), ONE)),
    ("f(i)^0", ("power", F, 0)), ("f(i)^4", ("power", F, 4)), ("(3)^2", ("power", ("num", 3, 1), 2)),
    ("(-1/2)^1", ("power", ("num", -1, 2), 1)), ("(f(i)^2)^3", ("power", ("power", F, 2), 3)),
    ("(((0)^1)^2)^3", ("power", ("power", ("power", ("num", 0, 1), 1), 2), 3)),
    ("[i=j]^2", ("power", ("same", "i", "j"), 2)), ("[i~j:1]^2", ("power", ("near", 1, "i", "j"), 2)),
    ("sum(i: f(i))^2", ("power", ("sum", "i", F), 2)), ("sum(i: f(i)^2)", ("sum", "i", ("power", F, 2))),
    ("(1 + 1)^2", ("power", ("plus", ONE, ONE), 2)), ("(1 * 1)^2", ("power", ("times", ONE, ONE), 2)),
    ("(f(i)^2 + (3)^2)", ("plus", ("power", F, 2), ("power", ("num", 3, 1), 2))),
    ("((f(i)^2 * f(i)) + 1)", ("plus", ("times", ("power", F, 2), F), ONE)),
    ("sum(i: sum(j: (f(i) * f(j))))", ("sum", "i", ("sum", "j", ("times", F, ("trait", "f", ("j",)))))),
]


def opened(text, many):
    """A text inside of so many powers; each of them stands in parentheses, but for the outer one."""
    for _ in range(many):
        text = f"({text})^1"
    return text


def summed(text, many):
    names = "abcdefghijklmnop"
    for number in range(many):
        text = f"sum({names[number]}: {text})"
    return text


class TestBoth(unittest.TestCase):
    def test_written_and_read(self):
        for text, program in ROWS:
            with self.subTest(text=text):
                self.assertEqual(program_text(program), text)
                self.assertEqual(program_text(program=program), text)
                self.assertEqual(read_program(text), program)
                self.assertEqual(repr(read_program(text=text)), repr(program))

    def test_all_tuples(self):
        for text, _ in ROWS:
            stack = [read_program(text)]
            while stack:
                part = stack.pop()
                self.assertNotIsInstance(part, list)
                if isinstance(part, tuple):
                    stack.extend(part)

    def test_random_programs(self):
        source = random.Random(7)
        for _ in range(400):
            program = random_program(source, 4, 5)
            self.assertEqual(read_program(program_text(program)), program)

    def test_whatever_names_and_variables_are(self):
        self.assertEqual(program_text(("trait", "No Name", ("I", "j k", "", "m"))), "No Name(I,j k,,m)")
        self.assertEqual(program_text(("sum", "X", ("part", "Y", "Z"))), "sum(X: [Z:Y])")


def random_program(source, deep, most):
    names = ["i", "j", "sum", "abcdefgh", "x"]
    kind = source.choice(["num", "trait", "same", "near", "part", "wave", "sum", "plus", "times", "power"])
    if deep == 0 and kind in ("sum", "plus", "times", "power"):
        kind = "num"
    if kind == "num":
        top, bottom = source.choice([0, 1, -3, 17, 999999999]), source.choice([1, 2, 999999998])
        shared = math.gcd(top, bottom)
        return ("num", top // shared, bottom // shared)
    if kind == "trait":
        return ("trait", source.choice(names), tuple(source.choice(names) for _ in range(source.randint(1, 3))))
    if kind == "near":
        return ("near", source.randint(0, 3), source.choice(names), source.choice(names))
    if kind in ("same", "part", "wave"):
        return (kind, source.choice(names), source.choice(names))
    if kind == "sum":
        return ("sum", source.choice(names), random_program(source, deep - 1, most))
    if kind == "power":
        return ("power", random_program(source, deep - 1, most), source.randint(0, 4))
    return (kind, *[random_program(source, deep - 1, most) for _ in range(source.randint(2, most))])


class TestPositions(unittest.TestCase):
    def refused(self, text, position):
        with self.subTest(text=text), self.assertRaises(InvalidText) as caught:
            read_program(text)
        self.assertEqual(caught.exception.position, position)
        self.assertEqual(caught.exception.code, "InvalidText")

    def test_values_that_are_no_string(self):
        for value in [None, True, False, 0, 7, (), [], ("3",), ["3"], ("num", 3, 1), ("f(i)",)]:
            self.refused(value, 0)

    def test_too_early(self):
        for text in [
            "", "-", "1/", "f", "f(", "f(i", "f(i,", "f(i,j", "f(i,j,k", "[", "[i", "[i=", "[i=j", "[i~", "[i~j",
            "[i~j:", "[i~j:1", "[i:", "[i:north", "[i@", "[i@a", "sum", "sum(", "sum(i", "sum(i:", "sum(i: ",
            "sum(i: 3", "(", "(3", "(3)", "(3)^", "(f(i)", "(f(i) ", "(f(i) +", "(f(i) + ", "(f(i) + 3", "(f(i) * 3 *",
            "f(i)^", "(3 + 3)^",
            "(f(i)^2)", "-1/", "(1/", "[i~abcdefgh",
        ]:
            self.refused(text, len(text))

    def test_each_start_of_a_text(self):
        # A text that ends too early is wrong at its end, unless it is a text itself or ends inside of a bottom.
        texts = {text for text, _ in ROWS}
        for text in texts:
            for end in range(len(text)):
                try:
                    self.assertEqual(program_text(read_program(text[:end])), text[:end])
                except InvalidText as error:
                    if text[error.position - 1] != "/":
                        self.assertEqual(error.position, end, text[:end])

    def test_a_text_that_goes_on(self):
        for text, program in ROWS:
            more = [" ", "]", ")", "\n", " + 1", ",", "=", ":", "A", "~"]
            for rest in more:
                self.refused(text + rest, len(text))
        self.refused("f(i)(", 4)
        self.refused("f(i)f(i)", 4)
        self.refused("[i=j][i=j]", 5)
        self.refused("3^2", 1)
        self.refused("1/2^2", 3)
        self.refused("f(i)^2^2", 6)
        self.refused("f(i)^22", 6)
        self.refused("(3)^2^3", 5)
        self.refused("3 + 3", 1)
        self.refused("f(i) * f(i)", 4)

    def test_starts_that_cannot_stand_there(self):
        for letter in " )]+*/^A_=~:@,.\n'\\`{":
            self.refused(letter, 0)
            self.refused(letter + "3", 0)
            self.refused(f"sum(i: {letter}3)", 7)
            self.refused(f"({letter}3 + 3)", 1)
            self.refused(f"(3 * {letter}3)", 5)

    def test_numbers(self):
        self.refused("01", 1)
        self.refused("00", 1)
        self.refused("-0", 1)
        self.refused("-01", 1)
        self.refused("-0/3", 1)
        self.refused("--1", 1)
        self.refused("-a", 1)
        self.refused("-(3)^2", 1)
        self.refused("- 1", 1)
        self.refused("-/", 1)
        self.refused("+1", 0)
        self.refused("1234567890", 9)
        self.refused("-1234567890", 10)
        self.refused("1000000000", 9)
        self.refused("12345678901/2", 9)
        self.refused("1.5", 1)
        self.refused("1a", 1)
        self.refused("1,5", 1)
        self.refused("1 ", 1)
        self.refused("1/a", 2)
        self.refused("1/-2", 2)
        self.refused("1//2", 2)
        self.refused("1/2/3", 3)
        self.refused("1/ 2", 2)
        self.refused("1 /2", 1)
        self.refused("f(-1)", 2)

    def test_bottoms(self):
        self.refused("2/4", 2)
        self.refused("3/1", 2)
        self.refused("0/1", 2)
        self.refused("0/2", 2)
        self.refused("1/0", 2)
        self.refused("1/00", 2)
        self.refused("1/01", 2)
        self.refused("-12/18", 4)
        self.refused("100/1000", 4)
        self.refused("(1 + 21/14)", 8)
        self.refused("(1 + 21/14", 8)
        self.refused("21/14x", 3)
        self.refused("2/1x", 2)
        self.refused("1/1234567890", 11)
        self.refused("3/1234567890", 2)
        self.refused("999999999/999999999", 10)
        self.assertEqual(read_program("2/41"), ("num", 2, 41))
        self.assertEqual(read_program("3/10"), ("num", 3, 10))

    def test_names(self):
        self.refused("abcdefghi(i)", 8)
        self.refused("f(abcdefghi)", 10)
        self.refused("f(i,abcdefghi)", 12)
        self.refused("[abcdefghi=j]", 9)
        self.refused("[i=abcdefghi]", 11)
        self.refused("[i:abcdefghi]", 11)
        self.refused("[i@abcdefghi]", 11)
        self.refused("[i~abcdefghi:1]", 11)
        self.refused("sum(abcdefghi: 1)", 12)
        self.refused("f1(i)", 1)
        self.refused("fA(i)", 1)
        self.refused("f (i)", 1)
        self.refused("F(i)", 0)
        self.refused("f(I)", 2)
        self.refused("f(1)", 2)
        self.refused("f(i1)", 3)
        self.refused("f_(i)", 1)
        self.refused("f", 1)
        self.refused("f^2", 1)
        self.refused("[f(i)]", 2)

    def test_variables(self):
        self.refused("f()", 2)
        self.refused("f( i)", 2)
        self.refused("f(i )", 3)
        self.refused("f(,i)", 2)
        self.refused("f(i,)", 4)
        self.refused("f(i, j)", 4)
        self.refused("f(i,j,k,l)", 7)
        self.refused("f(i,j,k,", 7)
        self.refused("sum(i,j,k,l)", 9)
        self.refused("f(i:", 3)
        self.refused("f(i: 1)", 3)
        self.refused("f(i;j)", 3)
        self.refused("f(i]", 3)
        self.refused("f(f(i))", 3)

    def test_tests(self):
        self.refused("[]", 1)
        self.refused("[=j]", 1)
        self.refused("[i]", 2)
        self.refused("[i j]", 2)
        self.refused("[i=]", 3)
        self.refused("[i==j]", 3)
        self.refused("[i= j]", 3)
        self.refused("[i=j)", 4)
        self.refused("[i=j:1]", 4)
        self.refused("[i~j]", 4)
        self.refused("[i~j=1]", 4)
        self.refused("[i~j:]", 5)
        self.refused("[i~j:4]", 5)
        self.refused("[i~j:9]", 5)
        self.refused("[i~j:-1]", 5)
        self.refused("[i~j:a]", 5)
        self.refused("[i~j:01]", 6)
        self.refused("[i~j:11]", 6)
        self.refused("[i~j:1)", 6)
        self.refused("[i:]", 3)
        self.refused("[i:1]", 3)
        self.refused("[i:north:1]", 8)
        self.refused("[i@]", 3)
        self.refused("[i@a,b]", 4)
        self.refused("[i,j]", 2)
        self.refused("[1=j]", 1)

    def test_sums(self):
        self.refused("sum(i:1)", 6)
        self.refused("sum(i :1)", 5)
        self.refused("sum(i:  1)", 7)
        self.refused("sum(i: 1 )", 8)
        self.refused("sum(i: )", 7)
        self.refused("sum(i: 1]", 8)
        self.refused("sum(i: 1 + 1)", 8)
        self.refused("sum(i,j: 1)", 7)
        self.refused("sum (i: 1)", 3)
        self.refused("sum(: 1)", 4)
        self.refused("sums(i: 1)", 6)
        self.refused("Sum(i: 1)", 0)
        self.refused("su(i: 1)", 4)
        self.refused("sum(1: 1)", 4)

    def test_plus_and_times(self):
        self.refused("(1+1)", 2)
        self.refused("(1 +1)", 4)
        self.refused("(1  + 1)", 3)
        self.refused("(1 +  1)", 5)
        self.refused("( 1 + 1)", 1)
        self.refused("(1 + 1 )", 7)
        self.refused("(1 - 1)", 3)
        self.refused("(1 / 1)", 3)
        self.refused("(1 + 1 * 1)", 7)
        self.refused("(1 * 1 + 1)", 7)
        self.refused("(1 + )", 5)
        self.refused("()", 1)
        self.refused("(1 1)", 3)
        self.refused("(1, 1)", 2)
        self.refused("(1 + 1]", 6)

    def test_nine_parts(self):
        for sign in "+*":
            eight = f" {sign} ".join(["f(i)"] * 8)
            self.assertEqual(program_text(read_program(f"({eight})")), f"({eight})")
            self.refused(f"({eight} {sign} f(i))", 1 + len(eight))
            self.refused(f"({eight} ", 1 + len(eight))
            self.refused(f"({eight} )", 1 + len(eight))
            self.refused(f"({eight}", 1 + len(eight))

    def test_parentheses_that_hold_neither_plus_nor_times(self):
        self.refused("(f(i))", 5)
        self.refused("(f(i))^2", 5)
        self.refused("([i=j])^2", 6)
        self.refused("(sum(i: 1))^2", 10)
        self.refused("((1 + 1))", 8)
        self.refused("((1 * 1))^2", 8)
        self.refused("(3)", 3)
        self.refused("(3))", 3)
        self.refused("(3) ", 3)
        self.refused("(3)(", 3)
        self.refused("(f(i)^2)", 8)
        self.refused("(f(i)^2) + 1", 8)
        self.refused("((3) + 1)", 4)
        self.refused("(1 + (3))", 8)
        self.refused("(1 + (f(i)^2))", 13)
        self.refused("((3))^2", 4)
        self.refused("((3))", 4)
        self.refused("sum(i: (3))", 10)
        self.refused("(3 )^2", 3)

    def test_counts(self):
        self.refused("f(i)^5", 5)
        self.refused("f(i)^9", 5)
        self.refused("f(i)^-1", 5)
        self.refused("f(i)^a", 5)
        self.refused("f(i)^ 2", 5)
        self.refused("f(i) ^2", 4)
        self.refused("f(i)^01", 6)
        self.refused("f(i)^1/2", 6)
        self.refused("(f(i)^(2))", 6)
        self.refused("(3)^(2)", 4)
        self.refused("f(i)^^2", 5)
        self.refused("f(i)**2", 4)

    def test_inside_of_ten_others(self):
        self.assertEqual(program_text(read_program(opened("3", 10))), opened("3", 10))
        self.refused(opened("3", 11), 10)
        self.refused("(" * 11, 10)
        self.refused("(" * 30, 10)
        self.refused("(" * 10, 10)
        self.assertEqual(program_text(read_program(summed("f(a)", 10))), summed("f(a)", 10))
        self.refused(summed("3", 11), 10 * len("sum(a: ") + len("sum(a"))
        self.refused(summed("(3)^2", 10), 10 * len("sum(a: "))
        self.refused(summed("(3 + 3)", 10), 10 * len("sum(a: "))
        self.assertEqual(program_text(read_program(summed("(3 + 3)", 9))), summed("(3 + 3)", 9))
        start = "(1 + sum(i: " * 5
        self.assertEqual(program_text(read_program(start + "f(i)^2" + "))" * 5)), start + "f(i)^2" + "))" * 5)
        self.refused(start + "(", len(start))
        self.refused(start + "(1 + 1)" + "))" * 5, len(start))
        self.refused(start + "sum(i: 1)" + "))" * 5, len(start) + 5)
        # A trait that is called sum stands there, with its parenthesis and its comma.
        self.assertEqual(program_text(read_program(start + "sum(i,j)" + "))" * 5)), start + "sum(i,j)" + "))" * 5)
        self.refused(start + "sum(i;", len(start) + 5)

    def test_inside_of_ten_others_at_each_place(self):
        for start in ["(1 + ", "(1 * 2 * ", "(1 + 2 + 3 + ", "(f(i) + f(i) + f(i) + f(i) + f(i) + f(i) + f(i) + "]:
            whole = start * 10 + "7" + ")" * 10
            self.assertEqual(program_text(read_program(whole)), whole)
            self.refused(start * 11 + "7" + ")" * 11, 10 * len(start))
            self.refused(start * 10 + "sum(i: 1)", 10 * len(start) + 5)

    def test_parentheses_that_were_closed_do_not_count(self):
        text = "(" + " + ".join([opened("3", 9)] * 8) + ")"
        self.assertEqual(program_text(read_program(text)), text)
        self.refused(text[:-1].replace(opened("3", 9), opened("3", 10), 1), 10)

    def test_names_are_not_checked_by_the_reader(self):
        for text in ["f(i)", "sum(i: sum(i: [j@nowhere]))", "[i:j]", "sum(i: f(j,k,l))"]:
            self.assertEqual(program_text(read_program(text)), text)


class TestChangedTexts(unittest.TestCase):
    def position(self, text):
        try:
            program = read_program(text)
        except InvalidText as error:
            return error.position
        self.assertEqual(program_text(program), text)
        return None

    def test_each_changed_character(self):
        """Where a text is wrong does not depend on what follows, and what stands before it can go on."""
        letters = "a0129-/()[]=~:@,^+* +AZ\n."
        for text, _ in ROWS:
            for at in range(len(text)):
                for changed in [text[:at] + letter + text[at + 1:] for letter in letters] + [text[:at] + text[at + 1:]]:
                    position = self.position(changed)
                    if position is None:
                        continue
                    self.assertLessEqual(position, len(changed))
                    if position < len(changed) and not self.is_bottom(changed, position):
                        self.assertEqual(self.position(changed[:position + 1]), position, changed)
                        self.assertIn(self.position(changed[:position]), (None, position), changed)
                        for rest in ("", "(", "1", ")", " ", "^2"):
                            self.assertEqual(self.position(changed[:position + 1] + rest), position, changed)

    def is_bottom(self, text, position):
        return position > 0 and text[position - 1] == "/"


if __name__ == "__main__":
    unittest.main()
