"""What is lost by fixing places ahead: LOTS beside the greatest need of any moment of any run."""

from math import gcd

from seatsahead.lots import all_moments, great_lots, great_moments, is_moment_set, is_told_lot
from seatsahead.sizes import is_sizes, lots_of, worst
from seatsahead.things import is_number, is_pair, is_set_of


def lost_lot(program):
    """A LOT that is no MOMENT SET; None if there is none."""
    # What lies in a MOMENT SET is one, so a lost LOT lies in a great one that is lost, too.
    moments = great_moments(program)
    return min([lot for lot in great_lots(program) if lot not in moments], default=None)


def never_lost(program):
    """Whether LOTS is WORST, whatever the SIZES."""
    return lost_lot(program) is None


def is_lost_lot(program, thing):
    """Whether thing is a LOT that is no MOMENT SET."""
    return is_told_lot(program, thing) and not is_moment_set(program, thing)


def loss_of(program, lot):
    """The factor of this LOT."""
    top, unit, _, _ = _solved(lot, _bars(great_moments(program), lot))
    return _lowest((top, unit))


def least_loss(program):
    """The greatest factor of a LOT."""
    _, top, unit, _ = _most_lost(program)
    return _lowest((top, unit))


def cover_of(program, lot):
    """A COVER of this LOT whose manys are together just number times its factor."""
    bars = _bars(great_moments(program), lot)
    _, unit, _, manys = _solved(lot, bars)
    number, *counts = _lowest((unit, *manys))
    return number, tuple([(bar, count) for bar, count in zip(bars, counts) if count > 0])


def is_cover_of(program, lot, thing):
    """Whether thing is such a COVER."""
    if not is_pair(thing) or not _is_many(thing[0]) or not isinstance(thing[1], tuple):
        return False
    number, rows = thing
    moments = {some: True for some in all_moments(program)}
    if not all([_is_cover_row(program, moments, row) for row in rows]):
        return False
    top, bottom = loss_of(program, lot)
    if sum([many for _, many in rows]) * bottom != number * top:
        return False
    return all([sum([many for some, many in rows if value in some]) >= number for value in lot])


def lossy_sizes(program):
    """SIZES by which LOTS is least_loss times WORST, which is not 0; None without STEPS."""
    if len(program) == 0:
        return None
    # By these weights no MOMENT SET comes to more than the unit; and no LOT can be more than least_loss
    # times WORST. So this LOT is the heaviest one, and WORST is the unit.
    lot, _, _, weights = _most_lost(program)
    size = dict(zip(lot, _lowest(weights)))
    return tuple([size.get(value, 0) for value in program.steps])


def is_lossy_sizes(program, thing):
    """Whether thing are such SIZES."""
    if not is_sizes(program, thing) or worst(program, thing) == 0:
        return False
    top, bottom = least_loss(program)
    return lots_of(program, thing) * bottom == worst(program, thing) * top


def _lowest(numbers):
    """These numbers, not all of them 0, without what they all can be divided by."""
    common = 0
    for number in numbers:
        common = gcd(common, number)
    return tuple([number // common for number in numbers])


def _is_many(thing):
    return is_number(thing) and thing >= 1


def _is_cover_row(program, moments, thing):
    return is_pair(thing) and is_set_of(program.steps, thing[0]) and thing[0] in moments and _is_many(thing[1])


def _most_lost(program):
    """A LOT with the greatest factor, the top and the unit of this, and the weights that show it."""
    moments = great_moments(program)
    found = ((), 0, 1, [])
    # A LOT has at least the factor of what lies in it: each value more may weigh nothing.
    for lot in great_lots(program):
        top, unit, weights, _ = _solved(lot, _bars(moments, lot))
        if top * found[2] > found[1] * unit:
            found = (lot, top, unit, weights)
    return found


def _bars(moments, lot):
    """What these MOMENT SETS have of the LOT, without what lies in others."""
    parts = sorted({tuple([value for value in lot if value in some]) for some in moments})
    return [part for part in parts if not any([_lies_in(part, other) for other in parts])]


def _lies_in(some, other):
    return len(some) < len(other) and all([value in other for value in some])


def _solved(lot, bars):
    """How much these values can weigh together if those of each bar weigh at most a unit together.

    Tells this sum, the unit, the weights, and how often each of the bars is to be taken such that each value
    is in so many as the unit is, and they are just so many as the sum is. All are whole numbers.
    """
    # The simplex method. Variables are the weights of the values, then what each bar leaves of the unit.
    # The table has a line for each variable that the others tell, at first what the bars leave, and at the
    # end one for the sum; and a column for each variable that is 0 for now, at first the weights, and at
    # the end one for what the line comes to. All entries are to be divided by the unit.
    many = len(lot)
    table = [[1 if value in bar else 0 for value in lot] + [1] for bar in bars] + [[-1 for _ in lot] + [0]]
    columns = list(range(many))
    lines = list(range(many, many + len(bars)))
    unit = 1
    column = _entering(table, columns)
    while column is not None:
        line = _leaving(table, lines, column)
        pivot = table[line][column]
        table = _turned(table, line, column, unit)
        lines[line], columns[column], unit = columns[column], lines[line], pivot
        column = _entering(table, columns)
    weights = {variable: row[many] for variable, row in zip(lines, table)}
    # Where a bar leaves nothing, what the sum would lose if it had to leave something tells how often it counts.
    counts = dict(zip(columns, table[-1]))
    return (
        table[-1][many],
        unit,
        [weights.get(place, 0) for place in range(many)],
        [counts.get(many + place, 0) for place in range(len(bars))],
    )


def _entering(table, columns):
    """The column by which the sum can grow, None if there is none; of several the first variable."""
    # Always the first one, here and in the lines: Bland's rule, by which the method comes to an end.
    return min([(variable, place) for place, variable in enumerate(columns) if table[-1][place] < 0],
               default=(0, None))[1]


def _leaving(table, lines, column):
    """The line that bounds the variable of this column most; of several that of the first variable."""
    bounding = [place for place in range(len(lines)) if table[place][column] > 0]
    best = bounding[0]
    for place in bounding[1:]:
        more = table[place][-1] * table[best][column] - table[best][-1] * table[place][column]
        if more < 0 or (more == 0 and lines[place] < lines[best]):
            best = place
    return best


def _turned(table, line, column, unit):
    """The table in which this line and this column have changed their parts."""
    pivot = table[line][column]

    def entry(at, place):
        if at == line:
            return unit if place == column else table[at][place]
        if place == column:
            return -table[at][place]
        # Each entry is a minor of the first table, so that nothing is left over.
        return (table[at][place] * pivot - table[at][column] * table[line][place]) // unit

    return [[entry(at, place) for place in range(len(row))] for at, row in enumerate(table)]
