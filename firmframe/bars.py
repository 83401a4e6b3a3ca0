"""The calls on the wall's bars: what is told of it by bars alone."""

from firmframe.base import NOT_THERE
from firmframe.base import OUT_OF_RANGE
from firmframe.base import THERE_ALREADY
from firmframe.base import bent_squares
from firmframe.base import column_strip
from firmframe.base import counted
from firmframe.base import flattened
from firmframe.base import part_count
from firmframe.base import squares
from firmframe.base import strip_count
from firmframe.base import without


def joined(wall, firsts, bar):
    """Of each strip its part's first, once this bar joins two strips, too."""
    one = firsts[bar[0]]
    other = firsts[column_strip(wall, bar[1])]
    low = min(one, other)
    high = max(one, other)
    return [low if first == high else first for first in firsts]


def bar_firsts(wall, bars):
    """Of each strip its part's first, by these bars alone."""
    firsts = list(range(strip_count(wall)))
    for bar in bars:
        firsts = joined(wall, firsts, bar)
    return firsts


def shears(wall, bars):
    """How many ways to shear there are by these bars."""
    return part_count(bar_firsts(wall, bars)) - 1


def keeps_angle(wall, firsts, square):
    return firsts[square[0]] == firsts[column_strip(wall, square[1])]


def angles(wall, bars):
    """Of each square, row by row, 1 if it keeps its angle by these bars, else 0."""
    firsts = bar_firsts(wall, bars)
    return [1 if keeps_angle(wall, firsts, square) else 0 for square in squares(wall)]


def is_spare(wall, bars, bar):
    return shears(wall, without(bars, bar)) == shears(wall, bars)


def call_brace(wall, handed):
    bar = tuple(handed)
    if bar in wall.bars:
        return [THERE_ALREADY]
    wall.bars.append(bar)
    return [shears(wall, wall.bars)]


def call_free(wall, handed):
    bar = tuple(handed)
    if bar not in wall.bars:
        return [NOT_THERE]
    wall.bars.remove(bar)
    return [shears(wall, wall.bars)]


def call_firm(wall, handed):
    ways = shears(wall, wall.bars)
    return [1 if ways == 0 else 0, ways]


def call_parts(wall, handed):
    return counted(bar_firsts(wall, wall.bars))


def call_part(wall, handed):
    firsts = bar_firsts(wall, wall.bars)
    first = firsts[handed[0]]
    return counted([strip for strip in range(len(firsts)) if firsts[strip] == first])


def call_still(wall, handed):
    return [1 if keeps_angle(wall, bar_firsts(wall, wall.bars), handed) else 0]


def call_stills(wall, handed):
    kept = angles(wall, wall.bars)
    return [sum(kept)] + kept


def call_alike(wall, handed):
    firsts = bar_firsts(wall, wall.bars)
    same_rows = firsts[handed[0]] == firsts[handed[2]]
    same_columns = firsts[column_strip(wall, handed[1])] == firsts[column_strip(wall, handed[3])]
    return [1 if same_rows and same_columns else 0]


def call_spare(wall, handed):
    bar = tuple(handed)
    if bar not in wall.bars:
        return [NOT_THERE]
    return [1 if is_spare(wall, wall.bars, bar) else 0]


def call_spares(wall, handed):
    return flattened([bar for bar in wall.bars if is_spare(wall, wall.bars, bar)])


def call_put(wall, handed):
    firsts = bar_firsts(wall, wall.bars)
    added = []
    # A square that keeps its angle still does with more bars, so the first that doesn't never lies further back.
    for square in squares(wall):
        if not keeps_angle(wall, firsts, square):
            added.append(square)
            firsts = joined(wall, firsts, square)
    return flattened(added)


def call_thin(wall, handed):
    left = list(wall.bars)
    for bar in reversed(wall.bars):
        if is_spare(wall, left, bar):
            left = without(left, bar)
    return flattened(left)


def call_turn(wall, way):
    if len(way) != strip_count(wall):
        return [OUT_OF_RANGE]
    bent = bent_squares(wall, way)
    broken = [bar for bar in wall.bars if bar in bent]
    return [1 if len(broken) == 0 else 0, len(bent)]


def call_falls(wall, handed):
    bar = tuple(handed)
    if bar not in wall.bars:
        return [NOT_THERE]
    left = without(wall.bars, bar)
    return [sum(angles(wall, wall.bars)) - sum(angles(wall, left)), shears(wall, left)]


def call_would(wall, handed):
    bar = tuple(handed)
    if bar in wall.bars:
        return [THERE_ALREADY]
    more = wall.bars + [bar]
    return [shears(wall, more), sum(angles(wall, more)) - sum(angles(wall, wall.bars))]


def call_least(wall, handed):
    strips = strip_count(wall)
    parts = part_count(bar_firsts(wall, wall.bars))
    return [strips - 1, len(wall.bars) - (strips - parts)]


def call_all(wall, handed):
    return flattened(wall.bars)


def call_row(wall, handed):
    return counted([column for column in range(wall.columns) if (handed[0], column) in wall.bars])


def call_column(wall, handed):
    return counted([row for row in range(wall.rows) if (row, handed[0]) in wall.bars])


BAR_CALLS = {
    1: call_brace,
    2: call_free,
    3: call_firm,
    4: call_parts,
    5: call_part,
    6: call_still,
    7: call_stills,
    8: call_alike,
    9: call_spare,
    10: call_spares,
    11: call_put,
    12: call_thin,
    13: call_turn,
    14: call_falls,
    15: call_would,
    16: call_least,
    17: call_all,
    18: call_row,
    19: call_column,
}


def bar_answer(wall, number, handed):
    """What the call of this number answers; its squares, strips, rows and columns are there."""
    return BAR_CALLS[number](wall, handed)
