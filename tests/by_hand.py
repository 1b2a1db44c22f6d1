"""What the tests compare with: the numbers of programs, webs and drawings, straight from the words of the document."""

import itertools
from fractions import Fraction

from fewtell.errors import FewError
from fewtell.forms import Form
from fewtell.plans import Plan
from fewtell.populations import Population
from fewtell.programs import check_program
from fewtell.webs import is_web
from fewtell.worlds import World

TRAITS = [("f", 1, False, False), ("g", 2, False, False), ("even", 2, False, True), ("flag", 1, True, False)]
SMALL = [
    World(parts, TRAITS) for parts in ([("a", (3,))], [("a", (2, 2))], [("a", (1, 2)), ("b", (2,))], [("a", (2, 1, 2))])
]


def number_of(world, program, population, waves=None, stands=None):
    """The number of a program; waves are the people in each wave, stands the people for whom the variables stand."""
    stands = stands or {}

    def inner(part, **more):
        return number_of(world, part, population, waves, {**stands, **more})

    kind = program[0]
    if kind == "num":
        return Fraction(program[1], program[2])
    if kind == "trait":
        return Fraction(population.number(program[1], tuple(stands[name] for name in program[2])))
    if kind == "same":
        return Fraction(stands[program[1]] == stands[program[2]])
    if kind == "near":
        level = world.meet(stands[program[2]], stands[program[3]])
        return Fraction(level is not None and level >= program[1])
    if kind == "part":
        return Fraction(world.parts()[stands[program[2]][0]][0] == program[1])
    if kind == "wave":
        return Fraction(stands[program[2]] in waves[program[1]])
    if kind == "sum":
        return sum([inner(program[2], **{program[1]: person}) for person in world.all_people()], Fraction(0))
    if kind == "plus":
        return sum([inner(part) for part in program[1:]], Fraction(0))
    found = Fraction(1)
    for part in program[1:] if kind == "times" else [program[1]] * program[2]:
        found *= inner(part)
    return found


def all_seatings(world, people):
    """All tuples of different people of the same parts that meet each other as some people do."""
    pairs = list(itertools.combinations(range(len(people)), 2))
    wanted = [world.meet(people[one], people[other]) for one, other in pairs]
    found = []
    for seats in itertools.permutations(list(world.all_people()), len(people)):
        if [seat[0] for seat in seats] == [person[0] for person in people]:
            if [world.meet(seats[one], seats[other]) for one, other in pairs] == wanted:
                found.append(seats)
    return found


def web_number(world, web, population, waves=None):
    """The sum of a web over a population; only seatings count whose people are in the wished waves."""
    people, wishes, entries = web
    found = 0
    for seats in all_seatings(world, people):
        if all(seat in waves[name] for seat, names in zip(seats, wishes) for name in names):
            product = 1
            for name, positions in entries:
                product *= population.number(name, tuple(seats[at] for at in positions))
            found += product
    return found


def form_number(form, population, waves=None):
    """The number of a form for a population, and for a drawing with these waves."""
    found = Fraction(0)
    for web, factor in form.terms():
        found += Fraction(*factor) * web_number(form.world, web, population, waves)
    return found


def pair(value):
    """A fraction as the program has it."""
    return (value.numerator, value.denominator)


def children_drawn(how, children):
    """All lots of drawn children, each with its chance."""
    if how is None:
        return [(Fraction(1), tuple(children))]
    if isinstance(how, int):
        lots = list(itertools.combinations(children, how))
        return [(Fraction(1, len(lots)), lot) for lot in lots]
    found = []
    for many in range(len(children) + 1):
        for lot in itertools.combinations(children, many):
            chance = Fraction(*how) ** many * (1 - Fraction(*how)) ** (len(children) - many)
            found.append((chance, lot))
    return found


def part_drawings(sizes, part, hows, source):
    """All lots of nodes of a part that a wave can draw out of a source, each with its chance."""
    found = [(Fraction(1), {(part,)}, [(part,)])]
    for size, how in zip(sizes, hows):
        longer = []
        for chance, nodes, frontier in found:
            lots = []
            for node in frontier:
                children = [(*node, index) for index in range(size)]
                lots.append(children_drawn(how, [child for child in children if source is None or child in source]))
            for choice in itertools.product(*lots):
                drawn = [child for _, lot in choice for child in lot]
                its_chance = chance
                for lot_chance, _ in choice:
                    its_chance *= lot_chance
                longer.append((its_chance, nodes | set(drawn), drawn))
        found = longer
    return [(chance, nodes) for chance, nodes, _ in found]


def all_drawings(plan):
    """All drawings of a plan: its chance, and the nodes in each wave."""
    world = plan.world
    found = [(Fraction(1), {})]
    for name, source, hows in plan.waves():
        longer = []
        for chance, waves in found:
            lots = []
            for part in range(len(world)):
                nodes = None if source is None else waves[source]
                lots.append(part_drawings(world.parts()[part][1], part, hows[part], nodes))
            for choice in itertools.product(*lots):
                its_chance, nodes = chance, set()
                for part_chance, part_nodes in choice:
                    its_chance *= part_chance
                    nodes |= part_nodes
                longer.append((its_chance, {**waves, name: nodes}))
        found = longer
    return found


def is_seen(plan, waves, trait, people):
    """Whether an entry is seen in a drawing, straight from the words of the document."""
    for name, wave, ends in plan.sights():
        hits = [person in waves[wave] for person in people]
        if name == trait and {"all": all(hits), "any": any(hits), "first": hits[0]}[ends]:
            return True
    return False


def seen_number(plan, web, population, waves):
    """The sum of a web without wishes over the seatings all of whose entries are seen in a drawing."""
    found = 0
    for seats in all_seatings(plan.world, web[0]):
        product = 1
        for name, positions in web[2]:
            people = tuple(seats[at] for at in positions)
            product *= population.number(name, people) if is_seen(plan, waves, name, people) else 0
        found += product
    return found


def average(drawings, number):
    """The average of a number of the waves of drawings over pairs (chance, waves)."""
    return sum([chance * number(waves) for chance, waves in drawings], Fraction(0))


def random_target(source, world, many=3, most=2):
    """A form without wishes with up to so many webs of at most so many people each."""
    factors = [(1, 1), (-2, 1), (1, 3), (5, 2)]
    webs = [random_web(source, world, (), most) for _ in range(source.randint(1, many))]
    return Form(world, [(web, source.choice(factors)) for web in webs])


def random_program(source, world, waves=(), deep=5, scope=()):
    """A program that may be of any form; its names and variables are known."""
    kinds = ["num", "sum", "sum", "sum", "plus", "times", "times", "power"]
    if scope:
        kinds += ["trait"] * 6 + ["same", "near", "part"] + (["wave"] * 3 if waves else [])
    kind = source.choice(kinds)
    if deep == 0 and kind in ("sum", "plus", "times", "power"):
        kind = "trait" if scope else "num"

    def inner(more=()):
        return random_program(source, world, waves, deep - 1, (*scope, *more))

    if kind == "num":
        return ("num", *source.choice([(0, 1), (1, 1), (-2, 1), (1, 2), (-3, 5), (7, 1)]))
    if kind == "trait":
        name, ends, _, _ = source.choice(world.traits())
        return ("trait", name, tuple(source.choice(scope) for _ in range(ends)))
    if kind == "same":
        return ("same", source.choice(scope), source.choice(scope))
    if kind == "near":
        return ("near", source.randint(0, 3), source.choice(scope), source.choice(scope))
    if kind == "part":
        return ("part", source.choice(world.parts())[0], source.choice(scope))
    if kind == "wave":
        return ("wave", source.choice(waves), source.choice(scope))
    if kind == "sum":
        variable = source.choice([name for name in "ijklmnopqr" if name not in scope])
        return ("sum", variable, inner((variable,)))
    if kind == "power":
        return ("power", inner(), source.randint(0, 4))
    return (kind, *[inner() for _ in range(source.randint(2, 3))])


def good_program(source, world, waves=(), most_width=4, least_width=1):
    """A random program that is not too great, with sums."""
    while True:
        program = random_program(source, world, waves)
        try:
            check_program(world, program, waves=waves)
        except FewError:
            continue
        if least_width <= width(program) <= most_width:
            return program


def width(program):
    """The width of a program, straight from the words of the document."""
    if program[0] == "sum":
        return 1 + width(program[2])
    if program[0] == "plus":
        return max(width(part) for part in program[1:])
    if program[0] == "times":
        return sum(width(part) for part in program[1:])
    if program[0] == "power":
        return program[2] * width(program[1])
    return 0


def random_population(source, world, many):
    """A population with at most so many numbers."""
    people = list(world.all_people())
    numbers = {}
    for _ in range(many):
        name, ends, is_flag, _ = source.choice(world.traits())
        entry = world.entry(name, tuple(source.choice(people) for _ in range(ends)))
        numbers[entry] = 1 if is_flag else source.choice([-3, -2, -1, 1, 2, 3, 5])
    return Population(world, list(numbers.items()))


def random_web(source, world, waves=("a", "b"), most=4):
    """A web with at most so many people, with any names for them."""
    people = list(world.all_people())
    chosen = tuple(source.sample(people, source.randint(0, min(most, len(people)))))
    wishes = tuple(tuple(name for name in waves if source.random() < 0.3) for _ in chosen)
    pairs = []
    while chosen and (len(pairs) < 2 or source.random() < 0.7):
        name, ends, is_flag, is_even = source.choice(world.traits())
        positions = tuple(source.randrange(len(chosen)) for _ in range(ends))
        pair = (name, tuple(sorted(positions)) if is_even else positions)
        if not is_flag or pair not in pairs:
            pairs.append(pair)
    web = (chosen, wishes, tuple(sorted(pairs)))
    return web if is_web(world, web, waves=waves) else random_web(source, world, waves, most)


def renamed(source, world, web):
    """The same web with its people in another order, and with other names for them."""
    order = list(range(len(web[0])))
    source.shuffle(order)
    evens = [name for name, _, _, is_even in world.traits() if is_even]
    entries = []
    for name, positions in web[2]:
        places = tuple(order.index(at) for at in positions)
        entries.append((name, tuple(sorted(places)) if name in evens else places))
    names = {}
    for part in range(len(world)):
        nodes = [(part,)]
        for size in world.sizes(part):
            below = []
            for node in nodes:
                shuffled = list(range(size))
                source.shuffle(shuffled)
                for index in range(size):
                    names[(*node, index)] = (*names.get(node, node), shuffled[index])
                    below.append((*node, index))
            nodes = below
    people = tuple(names[web[0][at]] for at in order)
    return (people, tuple(web[1][at] for at in order), tuple(sorted(entries)))


def random_how(source, supply):
    """How a level is drawn, and how many children are left by it; None if that is not fixed."""
    kind = source.choice(["all", "number", "number", "fraction"])
    if kind == "fraction":
        return source.choice([(1, 2), (1, 3), (3, 4)]), None
    if kind == "all" or supply is None:
        return None, supply
    number = source.randint(0, supply)
    return number, number


def random_plan(source, world):
    """A plan with one to three waves and some sights."""
    rows, left = [], {None: [sizes for _, sizes in world.parts()]}
    for name in source.sample(["a", "b", "c"], source.randint(1, 3)):
        origin = source.choice(list(left))
        pairs = [[random_how(source, supply) for supply in levels] for levels in left[origin]]
        rows.append((name, origin, tuple(tuple(how for how, _ in row) for row in pairs)))
        left[name] = [[many for _, many in row] for row in pairs]
    sights = []
    for _ in range(source.randint(0, 5)):
        trait, _, _, is_even = source.choice(world.traits())
        row = (trait, source.choice(rows)[0], source.choice(["all", "any"] if is_even else ["all", "any", "first"]))
        if row not in sights:
            sights.append(row)
    return Plan(world, rows, sights)


def some_plans(source, many, most=60, *, with_sights=False):
    """Pairs of a random plan of a small world and all of its drawings, of which there are few."""
    found = []
    while len(found) < many:
        plan = random_plan(source, source.choice(SMALL))
        if with_sights and not plan.sights():
            continue
        drawings = all_drawings(plan)
        if len(drawings) <= most:
            found.append((plan, drawings))
    return found
