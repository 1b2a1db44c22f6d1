"""Pages: plans as texts with a line for each part, trait, wave and sight."""

from math import gcd

from fewtell.errors import InvalidPage, InvalidPart, InvalidSight, InvalidTrait, InvalidWave
from fewtell.kinds import is_number, is_numeral
from fewtell.plans import ENDS, Plan
from fewtell.ratios import number_text, ratio_text
from fewtell.worlds import World, is_name

# The kinds of lines that may stand behind a line of a kind.
BEHIND = {"part": ("part", "trait"), "trait": ("trait", "wave"), "wave": ("wave", "sight"), "sight": ("sight",)}


def part_line(name, sizes):
    """The line for a part."""
    return " ".join(["part", name, *[number_text(size) for size in sizes]])


def trait_line(name, ends, is_flag, is_even):
    """The line for a trait."""
    words = ["trait", name, number_text(ends)]
    if is_flag:
        words.append("flag")
    if is_even:
        words.append("even")
    return " ".join(words)


def how_text(how):
    """The word for how a level is drawn."""
    if how is None:
        return "*"
    if is_number(how):
        return number_text(how)
    return ratio_text(how)


def wave_line(name, source, hows):
    """The line for a wave."""
    parts = ";".join([",".join([how_text(how) for how in row]) for row in hows])
    return " ".join(["wave", name, "-" if source is None else source, parts])


def write_plan(plan):
    """The page of a plan."""
    lines = [part_line(name, sizes) for name, sizes in plan.world.parts()]
    lines.extend([trait_line(name, ends, is_flag, is_even) for name, ends, is_flag, is_even in plan.world.traits()])
    lines.extend([wave_line(name, source, hows) for name, source, hows in plan.waves()])
    lines.extend([" ".join(["sight", *row]) for row in plan.sights()])
    return "".join([f"{line}\n" for line in lines])


def read_part(words):
    """The row for a part, None if the words behind the first one are not of its form."""
    if len(words) < 2 or not is_name(words[0]) or not all([is_numeral(word) for word in words[1:]]):
        return None
    return (words[0], tuple([int(word) for word in words[1:]]))


def read_trait(words):
    """The row for a trait, None if the words behind the first one are not of its form."""
    if len(words) < 2 or not is_name(words[0]) or not is_numeral(words[1]):
        return None
    marks = words[2:]
    if marks not in ([], ["flag"], ["even"], ["flag", "even"]):
        return None
    return (words[0], int(words[1]), "flag" in marks, "even" in marks)


def is_how_word(word):
    """Whether a word says how a level is drawn."""
    if word == "*":
        return True
    over, sign, under = word.partition("/")
    if sign == "":
        return is_numeral(word)
    return is_numeral(over) and is_numeral(under) and int(under) >= 2 and gcd(int(over), int(under)) == 1


def how_of_word(word):
    """How a level is drawn."""
    if word == "*":
        return None
    over, sign, under = word.partition("/")
    if sign == "":
        return int(word)
    return (int(over), int(under))


def read_wave(words):
    """The row for a wave, None if the words behind the first one are not of its form."""
    if len(words) != 3 or not is_name(words[0]) or not (words[1] == "-" or is_name(words[1])):
        return None
    hows = [row.split(",") for row in words[2].split(";")]
    if not all([is_how_word(word) for row in hows for word in row]):
        return None
    source = None if words[1] == "-" else words[1]
    return (words[0], source, tuple([tuple([how_of_word(word) for word in row]) for row in hows]))


def read_sight(words):
    """The row for a sight, None if the words behind the first one are not of its form."""
    if len(words) != 3 or not is_name(words[0]) or not is_name(words[1]) or words[2] not in ENDS:
        return None
    return tuple(words)


READERS = {"part": read_part, "trait": read_trait, "wave": read_wave, "sight": read_sight}


def read_rows(text):
    """The rows of a page by their kinds."""
    lines = text.split("\n")
    rows = {kind: [] for kind in BEHIND}
    allowed = ("part",)
    for index, line in enumerate(lines[:-1]):
        kind, *words = line.split(" ")
        if kind not in allowed:
            raise InvalidPage(index)
        read = READERS[kind]
        row = read(words)
        if row is None:
            raise InvalidPage(index)
        rows[kind].append(row)
        allowed = BEHIND[kind]
    if lines[-1] != "":
        raise InvalidPage(len(lines) - 1)
    if not rows["wave"]:
        raise InvalidPage(len(lines) - 1)
    return rows


def read_plan(text):
    """The plan with a page."""
    if not isinstance(text, str):
        raise InvalidPage(0)
    rows = read_rows(text)
    parts, traits, waves = len(rows["part"]), len(rows["trait"]), len(rows["wave"])
    try:
        return Plan(World(rows["part"], rows["trait"]), rows["wave"], rows["sight"])
    except InvalidPart as wrong_part:
        raise InvalidPage(wrong_part.index)
    except InvalidTrait as wrong_trait:
        raise InvalidPage(parts + wrong_trait.index)
    except InvalidWave as wrong_wave:
        raise InvalidPage(parts + traits + wrong_wave.index)
    except InvalidSight as wrong_sight:
        raise InvalidPage(parts + traits + waves + wrong_sight.index)
