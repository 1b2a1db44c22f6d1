"""Programs as texts: written, and read."""

from math import gcd

from fewtell.errors import InvalidText
from fewtell.kinds import DIGITS
from fewtell.programs import MOST_NESTED, MOST_PARTS
from fewtell.ratios import ratio_text
from fewtell.worlds import LETTERS, LONGEST_NAME, MOST_ENDS

LEVELS = "0123"
COUNTS = "01234"
LONGEST_NUMBER = 9
SIGNS = {"+": "plus", "*": "times"}


def joined_text(parts, sign):
    """The text of programs that are joined by a sign."""
    text = f" {sign} ".join([program_text(part) for part in parts])
    return f"({text})"


def power_text(part, count):
    """The text of a power."""
    text = program_text(part)
    if part[0] in ("num", "power"):
        text = f"({text})"
    return f"{text}^{count}"


def trait_text(name, variables):
    """The text of a trait."""
    text = ",".join(variables)
    return f"{name}({text})"


def text_of_test(program):
    """The text of a test."""
    if program[0] == "same":
        return f"[{program[1]}={program[2]}]"
    if program[0] == "near":
        return f"[{program[2]}~{program[3]}:{program[1]}]"
    if program[0] == "part":
        return f"[{program[2]}:{program[1]}]"
    return f"[{program[2]}@{program[1]}]"


def program_text(program):
    """The text of a program, whatever its names and variables are."""
    kind = program[0]
    if kind == "num":
        return ratio_text(program[1:])
    if kind == "trait":
        return trait_text(program[1], program[2])
    if kind == "sum":
        return f"sum({program[1]}: {program_text(program[2])})"
    if kind == "plus":
        return joined_text(program[1:], "+")
    if kind == "times":
        return joined_text(program[1:], "*")
    if kind == "power":
        return power_text(program[1], program[2])
    return text_of_test(program)


class Reader:
    """Reads a text from its start on, and refuses the first character that cannot stand there."""

    def __init__(self, text):
        self._text = text
        self._at = 0

    def place(self):
        """The position of the next character."""
        return self._at

    def is_next(self, letters):
        """Whether the next character is one of some characters."""
        return self._at < len(self._text) and self._text[self._at] in letters

    def take(self, wanted):
        """Reads just these characters."""
        for letter in wanted:
            self.take_one(letter)

    def take_one(self, letters):
        """Reads one of some characters."""
        if not self.is_next(letters):
            raise InvalidText(self._at)
        self._at = self._at + 1
        return self._text[self._at - 1]

    def take_some(self, letters, most):
        """Reads as many of some characters as there are, at least one and not more than the most."""
        found = self.take_one(letters)
        while len(found) < most and self.is_next(letters):
            found = found + self.take_one(letters)
        return found

    def take_name(self):
        """Reads a name."""
        return self.take_some(LETTERS, LONGEST_NAME)

    def take_digits(self):
        """Reads a number that is not below 0."""
        if self.is_next("0"):
            return self.take_one("0")
        return self.take_some(DIGITS, LONGEST_NUMBER)

    def stop(self):
        """Refuses a text that goes on."""
        if self._at < len(self._text):
            raise InvalidText(self._at)


def read_program(text):
    """The program with a text."""
    if not isinstance(text, str):
        raise InvalidText(0)
    reader = Reader(text)
    program = read_part(reader, 0)
    reader.stop()
    return program


def read_part(reader, around):
    """Reads a program inside of so many sums and parentheses."""
    if reader.is_next("-" + DIGITS):
        return read_num(reader)
    if reader.is_next("("):
        program, is_whole = read_parentheses(reader, around)
    elif reader.is_next("["):
        program, is_whole = read_test(reader), True
    else:
        program, is_whole = read_named(reader, around), True
    if is_whole and not reader.is_next("^"):
        return program
    reader.take("^")
    return ("power", program, int(reader.take_one(COUNTS)))


def read_num(reader):
    """Reads a fraction."""
    sign = ""
    if reader.is_next("-"):
        sign = reader.take_one("-")
        if reader.is_next("0"):
            raise InvalidText(reader.place())
    top = int(sign + reader.take_digits())
    if not reader.is_next("/"):
        return ("num", top, 1)
    reader.take("/")
    first = reader.place()
    bottom = int(reader.take_digits())
    if bottom < 2 or gcd(top, bottom) != 1:
        raise InvalidText(first)
    return ("num", top, bottom)


def read_parentheses(reader, around):
    """Reads what begins with an opening parenthesis; also tells whether it is a program without a count behind it."""
    if around == MOST_NESTED:
        raise InvalidText(reader.place())
    reader.take("(")
    part = read_part(reader, around + 1)
    if part[0] in ("num", "power") and reader.is_next(")"):
        reader.take(")")
        return part, False
    parts = [part]
    reader.take(" ")
    sign = reader.take_one("+*")
    reader.take(" ")
    parts.append(read_part(reader, around + 1))
    while len(parts) < MOST_PARTS and reader.is_next(" "):
        reader.take(f" {sign} ")
        parts.append(read_part(reader, around + 1))
    reader.take(")")
    return (SIGNS[sign], *parts), True


def read_test(reader):
    """Reads a test."""
    reader.take("[")
    variable = reader.take_name()
    sign = reader.take_one("=~:@")
    name = reader.take_name()
    if sign == "=":
        program = ("same", variable, name)
    elif sign == "~":
        reader.take(":")
        program = ("near", int(reader.take_one(LEVELS)), variable, name)
    elif sign == ":":
        program = ("part", name, variable)
    else:
        program = ("wave", name, variable)
    reader.take("]")
    return program


def read_named(reader, around):
    """Reads a sum or a trait."""
    name = reader.take_name()
    reader.take("(")
    variables = [reader.take_name()]
    if name == "sum" and around < MOST_NESTED and reader.is_next(":"):
        reader.take(": ")
        part = read_part(reader, around + 1)
        reader.take(")")
        return ("sum", variables[0], part)
    while len(variables) < MOST_ENDS and reader.is_next(","):
        reader.take(",")
        variables.append(reader.take_name())
    reader.take(")")
    return ("trait", name, tuple(variables))
