"""What the document says, gone through step by step: small Programs and all that can happen in them."""

from functools import lru_cache
from itertools import combinations, permutations, product

from seatsahead.programs import Program

# Programs that the document speaks of, and what else is worth a look.
NAMED = (
    "- | - | - | -",
    "a | - | - | -",
    "a | - | - | a",
    "a b | - | - | -",
    "a b | b a | - | -",
    "a b | a b | a b | -",
    "a b | - | a b | a",
    "a b c | a c; b c | - | c",
    "a b c d | a b; a c; b d; c d | - | -",
    "a b c d | a b; a c; b d; c d | - | d",
    "a b c d | a b; a c; b d; c d | - | a",
    "a b c d | a b; c d | - | -",
    "a b c d | a b; b c; c d | - | -",
    "a b c d | - | a b; b c; c d | -",
    "a b c d | - | - | a b c d",
)
# Of five and six STEPS: where a LOT is no MOMENT SET, and where no LAYOUT is clean.
FORKED = "u v w x y | u x; u y; x v; y w | - | -"
APART = "r s v x y | v r; v s | r x; s y | -"
TWINS = "a b c x y z | - | a y; a z; b x; b z; c x; c y | -"
FREE = "a b c d e f | - | - | -"
# Of ten STEPS, the bound.
TEN = "abcdefghij"


def program_by(steps, kinds, kept):
    """The Program in which the pairs of steps, told in a possible order, are of these kinds."""
    forward = list(combinations(steps, 2))
    reads = [pair for pair, kind in zip(forward, kinds) if kind in (1, 3)]
    waits = [pair for pair, kind in zip(forward, kinds) if kind in (2, 3)]
    return Program(tuple(sorted(steps)), reads, waits, kept)


@lru_cache(maxsize=None)
def small_programs():
    """The named ones, all of three STEPS, some of four; the NAMES run against the chains."""
    found = [Program.of(text) for text in NAMED]
    for kinds in product(range(4), repeat=3):
        for many in range(4):
            found += [program_by("cab", kinds, kept) for kept in combinations("abc", many)]
    for number in range(0, 4 ** 6, 67):
        kinds = [number // 4 ** place % 4 for place in range(6)]
        found.append(program_by("cadb", kinds, () if number % 3 else "abcd"[number % 4]))
    return found


def few_programs():
    """The named ones, and every so often one of the others."""
    return [Program.of(text) for text in NAMED] + small_programs()[len(NAMED)::29]


@lru_cache(maxsize=None)
def ten_programs():
    """Programs of ten STEPS."""
    names = tuple(TEN)
    line = tuple(zip(names, names[1:]))
    pairs = tuple(combinations(names, 2))
    crown = tuple((one, other) for one in "abcde" for other in "fghij" if ord(other) - ord(one) != 5)
    return [
        Program(names),
        Program(names, (), line),
        Program(names, line),
        Program(names, pairs, (), names),
        Program(names, line[::2], line[1::2], ("c",)),
        Program(names, crown, ()),
        Program(names, (), crown),
        Program(names, pairs[::4], pairs[::3], ("a", "j")),
        Program(names, tuple((other, one) for one, other in line[:6])),
    ]


def ends_of(program):
    """The pairs (one, other) of which one has surely ended ahead of other."""
    found = set(program.reads) | set(program.waits)
    for middle, one, other in product(program.steps, repeat=3):
        if (one, middle) in found and (middle, other) in found:
            found.add((one, other))
    return found


def deeds_behind(program, begun, ended):
    """The deeds that are possible when these steps have begun, and these ended."""
    found = [("end", step) for step in begun - ended]
    for step in set(program.steps) - begun:
        if all(one in ended for one, other in program.reads + program.waits if other == step):
            found.append(("begin", step))
    return sorted(found)


def after(begun, ended, deed):
    kind, step = deed
    return (begun | {step}, ended) if kind == "begin" else (begun, ended | {step})


def lives_by(program, begun, ended):
    """The values that live when these steps have begun, and these ended, as a set of the document."""
    found = []
    for step in sorted(begun):
        users = {step} | {other for one, other in program.reads if one == step}
        if step in program.kept or not users <= ended:
            found.append(step)
    return tuple(found)


def behind(program, deeds):
    """What has begun and what has ended behind these deeds, each of which must be possible."""
    begun = ended = frozenset()
    for deed in deeds:
        assert deed in deeds_behind(program, begun, ended), deed
        begun, ended = after(begun, ended, deed)
    return begun, ended


def beginnings(program):
    """All beginnings, each with what has begun and what has ended behind it."""
    found = [((), frozenset(), frozenset())]
    for deeds, begun, ended in found:
        for deed in deeds_behind(program, begun, ended):
            found.append((deeds + (deed,), *after(begun, ended, deed)))
    return found


def runs(program):
    """All RUNS, ascending."""
    return sorted(deeds for deeds, _, _ in beginnings(program) if len(deeds) == 2 * len(program))


@lru_cache(maxsize=None)
def lives_of_text(text):
    program = Program.of(text)
    seen = {(frozenset(), frozenset())}
    waiting = list(seen)
    while waiting:
        begun, ended = waiting.pop()
        for deed in deeds_behind(program, begun, ended):
            state = after(begun, ended, deed)
            if state not in seen:
                seen.add(state)
                waiting.append(state)
    return {lives_by(program, begun, ended) for begun, ended in seen}


def all_lives(program):
    """What lives at the moments of all RUNS: a set of sets of values."""
    return lives_of_text(program.text)


def subsets(steps):
    """All sets of these steps, ascending."""
    return sorted(some for many in range(len(steps) + 1) for some in combinations(steps, many))


@lru_cache(maxsize=None)
def meets_of_text(text):
    return {pair for lives in lives_of_text(text) for pair in product(lives, repeat=2)}


def meets(program, one, other):
    """Whether both values live at one moment of some RUN."""
    return (one, other) in meets_of_text(program.text)


def is_dead(program, one, other):
    """Whether the value of one is dead ahead of that of other, as the document defines it."""
    users = [one] + [reader for value, reader in program.reads if value == one]
    ends = ends_of(program)
    return one not in program.kept and all((user, other) in ends for user in users)


@lru_cache(maxsize=None)
def lots_of_text(text):
    met = meets_of_text(text)
    return [some for some in subsets(Program.of(text).steps) if all(pair in met for pair in combinations(some, 2))]


def lots_by_walk(program):
    return list(lots_of_text(program.text))


def rows_by_walk(program):
    return [some for some in subsets(program.steps) if not any(meets(program, *two) for two in combinations(some, 2))]


@lru_cache(maxsize=None)
def moments_of_text(text):
    lives = great(all_lives(Program.of(text)))
    return [some for some in subsets(Program.of(text).steps) if any(set(some) <= set(values) for values in lives)]


def moments_by_walk(program):
    return list(moments_of_text(program.text))


def great(sets):
    """Those that lie in no other one."""
    return [some for some in sets if not any(set(some) < set(other) for other in sets)]


def sum_by(program, sizes, some):
    return sum(dict(zip(program.steps, sizes))[value] for value in some)


def peaks(program, sizes):
    """The PEAK of each RUN, in the order of the RUNS."""
    found = []
    for run in runs(program):
        begun = ended = frozenset()
        sums = [0]
        for deed in run:
            begun, ended = after(begun, ended, deed)
            sums.append(sum_by(program, sizes, lives_by(program, begun, ended)))
        found.append(max(sums))
    return found


def orders(program):
    """All orders in which the steps can run one by one."""
    ends = ends_of(program)
    return [order for order in permutations(program.steps)
            if not any((later, earlier) in ends for earlier, later in combinations(order, 2))]


def some_sizes(program):
    """SIZES to try: 0, alike, unlike, great."""
    many = len(program)
    yield (0,) * many
    yield (1,) * many
    yield tuple(range(1, many + 1))
    yield tuple(place * 7 % 5 for place in range(many))
    yield tuple(10 ** 29 + place if place % 2 else 3 - place % 3 for place in range(many))


@lru_cache(maxsize=None)
def layouts_of_text(text):
    program = Program.of(text)
    pairs = [pair for pair in combinations(program.steps, 2) if meets(program, *pair)]
    ways = product(*[(pair, pair[::-1]) for pair in pairs])
    return sorted(tuple(sorted(way)) for way in ways if not goes_round(way))


def layouts_by_walk(program):
    """All LAYOUTS, ascending: all directions of the pairs that can meet, without rounds."""
    return layouts_of_text(program.text)


def reach(pairs):
    """The pairs (one, other) of which a chain of pairs leads from one to other."""
    found = set(pairs)
    names = sorted({name for pair in pairs for name in pair})
    for middle, one, other in product(names, repeat=3):
        if (one, middle) in found and (middle, other) in found:
            found.add((one, other))
    return found


def goes_round(pairs):
    return any(one == other for one, other in reach(pairs))


def piles_by_walk(program, layout):
    """All PILES, ascending."""
    found = [()] + [(value,) for value in program.steps]
    for pile in found[1:]:
        found += longer(layout, pile)
    return sorted(found)


def longer(layout, pile):
    found = [(*pile, high) for low, high in layout if low == pile[-1]]
    return found + [more for other in found for more in longer(layout, other)]


def need_by(program, layout, sizes):
    return max(sum_by(program, sizes, pile) for pile in piles_by_walk(program, layout))


def partings_of(some):
    """All ways to part these values into sets, each an ascending tuple of such."""
    if some == ():
        return [()]
    found = []
    for parting in partings_of(some[1:]):
        found.append(tuple(sorted([some[:1], *parting])))
        for place, part in enumerate(parting):
            found.append(tuple(sorted([*parting[:place], (some[0], *part), *parting[place + 1:]])))
    return sorted(found)


def drawn_program(draw, many):
    """A Program of so many STEPS, drawn with draw."""
    names = tuple(sorted(draw.sample("abcdefghijklmnopqrstuvwxyz", many)))
    order = draw.sample(names, many)
    reading, waiting, keeping = draw.random() * 0.6, draw.random() * 0.4, draw.random() * 0.3
    forward = list(combinations(order, 2))
    reads = [pair for pair in forward if draw.random() < reading]
    waits = [pair for pair in forward if draw.random() < waiting]
    return Program(names, reads, waits, [name for name in names if draw.random() < keeping])


def drawn_sizes(draw, program):
    """SIZES, drawn with draw: small ones, alike ones, great ones."""
    some = draw.choice(((0, 1), (1,), range(5), range(1, 100), (0, 1, 10 ** 28, 10 ** 29 - 1)))
    return tuple(draw.choice(some) for _ in program.steps)
