"""The calls on the wall's ties: what is told of it by ties alone."""

from firmframe.base import KINDS
from firmframe.base import NOT_SO
from firmframe.base import NOT_THERE
from firmframe.base import OUT_OF_RANGE
from firmframe.base import THERE_ALREADY
from firmframe.base import TOO_MANY
from firmframe.base import bent_squares
from firmframe.base import column_strip
from firmframe.base import counted
from firmframe.base import flattened
from firmframe.base import part_count
from firmframe.base import squares
from firmframe.base import strip_count
from firmframe.base import without

MOST_SQUARES = 9
MOST_MORE = 4


def two_ties(places):
    """The ties of both kinds in each of these squares, kind 0 ahead of 1."""
    found = []
    for place in places:
        for kind in range(KINDS):
            found.append((place[0], place[1], kind))
    return found


def from_strip(wall, tie):
    """The strip from which one comes by this tie: the one that it lets turn no further than the other."""
    return tie[0] if tie[2] == 0 else column_strip(wall, tie[1])


def to_strip(wall, tie):
    return column_strip(wall, tie[1]) if tie[2] == 0 else tie[0]


def comes(table, source, target):
    return (table[source] >> target) & 1 == 1


def stepped(wall, table, tie):
    """The table of where one comes to, once one comes by this tie, too."""
    source = from_strip(wall, tie)
    target = to_strip(wall, tie)
    if comes(table, source, target):
        return table
    # Who comes to the source comes now to all that the target comes to; from the target itself nothing is new.
    further = table[target]
    return [known | further if (known >> source) & 1 == 1 else known for known in table]


def tie_table(wall, ties):
    """Of each strip a number: its bit b is 1 if one comes from that strip to strip b by these ties."""
    table = [1 << strip for strip in range(strip_count(wall))]
    for tie in ties:
        table = stepped(wall, table, tie)
    return table


def reached(table, strip):
    """All strips to which one comes from this one, it too, rising."""
    return [other for other in range(len(table)) if comes(table, strip, other)]


def together(table, strip):
    """All strips that hang together with this one, it too, rising."""
    # One comes from each strip to itself: two from which one comes to the same strips come to one another.
    return [other for other in range(len(table)) if table[other] == table[strip]]


def table_firsts(table):
    """Of each strip its part's first."""
    return [together(table, strip)[0] for strip in range(len(table))]


def tie_parts(wall, ties):
    """How many parts there are by these ties."""
    return part_count(table_firsts(tie_table(wall, ties)))


def is_firm(table):
    # No number is higher than the one with all bits, so if the least is that one, all are.
    return min(table) == (1 << len(table)) - 1


def is_end(table, strip):
    """Whether from this strip's part one comes to no other part."""
    return all([table[other] == table[strip] for other in reached(table, strip)])


def is_start(table, strip):
    """Whether to this strip's part one comes from no other part."""
    return all([table[other] == table[strip] for other in range(len(table)) if comes(table, other, strip)])


def part_leaders(table):
    """Of each part its first, rising."""
    firsts = table_firsts(table)
    return [strip for strip in range(len(table)) if firsts[strip] == strip]


def end_leaders(table):
    return [strip for strip in part_leaders(table) if is_end(table, strip)]


def start_leaders(table):
    return [strip for strip in part_leaders(table) if is_start(table, strip)]


def may_lean(wall, table, tie):
    """Whether the tie's square may lean as the tie's kind forbids."""
    return not comes(table, from_strip(wall, tie), to_strip(wall, tie))


def all_leans(wall, table):
    """Of each square, row by row, for 0, then for 1, 1 if it may lean so, else 0."""
    return [1 if may_lean(wall, table, tie) else 0 for tie in two_ties(squares(wall))]


def lean_count(wall, ties):
    """In how many ways squares may lean by these ties."""
    return sum(all_leans(wall, tie_table(wall, ties)))


def is_spare_tie(wall, tie):
    return not may_lean(wall, tie_table(wall, without(wall.ties, tie)), tie)


def might_do(table, more):
    """Whether so many ties more might make it firm, as each end needs one away from it, each start one to it."""
    return len(end_leaders(table)) <= more and len(start_leaders(table)) <= more


def first_set(wall, table, missing, size):
    """The first set of so many of the missing ties that makes it firm, or None."""
    if size == 0:
        return [] if is_firm(table) else None
    if not might_do(table, size):
        return None
    for place in range(len(missing)):
        tie = missing[place]
        behind = first_set(wall, stepped(wall, table, tie), missing[place + 1:], size - 1)
        if behind is not None:
            return [tie] + behind
    return None


def call_tie(wall, handed):
    tie = tuple(handed)
    if tie in wall.ties:
        return [THERE_ALREADY]
    wall.ties.append(tie)
    return [tie_parts(wall, wall.ties)]


def call_untie(wall, handed):
    tie = tuple(handed)
    if tie not in wall.ties:
        return [NOT_THERE]
    wall.ties.remove(tie)
    return [tie_parts(wall, wall.ties)]


def call_tfirm(wall, handed):
    parts = tie_parts(wall, wall.ties)
    return [1 if parts == 1 else 0, parts]


def call_reach(wall, handed):
    return counted(reached(tie_table(wall, wall.ties), handed[0]))


def call_tpart(wall, handed):
    return counted(together(tie_table(wall, wall.ties), handed[0]))


def call_tparts(wall, handed):
    return counted(table_firsts(tie_table(wall, wall.ties)))


def call_ends(wall, handed):
    table = tie_table(wall, wall.ties)
    ends = end_leaders(table)
    starts = start_leaders(table)
    return [len(ends), len(starts)] + ends + starts


def call_leans(wall, handed):
    return [1 if may_lean(wall, tie_table(wall, wall.ties), handed) else 0]


def call_tall(wall, handed):
    leaning = all_leans(wall, tie_table(wall, wall.ties))
    return [sum(leaning)] + leaning


def call_lean(wall, handed):
    table = tie_table(wall, wall.ties)
    if not may_lean(wall, table, handed):
        return [NOT_SO]
    further = from_strip(wall, handed)
    return counted([1 if comes(table, further, strip) else 0 for strip in range(len(table))])


def call_tturn(wall, way):
    if len(way) != strip_count(wall):
        return [OUT_OF_RANGE]
    broken = [tie for tie in wall.ties if way[from_strip(wall, tie)] > way[to_strip(wall, tie)]]
    return [1 if len(broken) == 0 else 0, len(bent_squares(wall, way))]


def call_tspare(wall, handed):
    tie = tuple(handed)
    if tie not in wall.ties:
        return [NOT_THERE]
    return [1 if is_spare_tie(wall, tie) else 0]


def call_tspares(wall, handed):
    return flattened([tie for tie in wall.ties if is_spare_tie(wall, tie)])


def call_tput(wall, handed):
    if wall.rows * wall.columns > MOST_SQUARES:
        return [TOO_MANY]
    table = tie_table(wall, wall.ties)
    missing = [tie for tie in two_ties(squares(wall)) if tie not in wall.ties]
    for size in range(MOST_MORE + 1):
        found = first_set(wall, table, missing, size)
        if found is not None:
            return flattened(found)
    return [NOT_SO]


def call_twould(wall, handed):
    tie = tuple(handed)
    if tie in wall.ties:
        return [THERE_ALREADY]
    more = wall.ties + [tie]
    return [tie_parts(wall, more), lean_count(wall, wall.ties) - lean_count(wall, more)]


def call_tfalls(wall, handed):
    tie = tuple(handed)
    if tie not in wall.ties:
        return [NOT_THERE]
    left = without(wall.ties, tie)
    return [tie_parts(wall, left), lean_count(wall, left) - lean_count(wall, wall.ties)]


def call_stiff(wall, handed):
    hanging = together(tie_table(wall, wall.ties), handed[0])
    there = [tie for tie in two_ties([handed]) if tie in wall.ties]
    return [1 if column_strip(wall, handed[1]) in hanging else 0, 1 if len(there) == KINDS else 0]


def call_flip(wall, handed):
    tie = tuple(handed)
    if tie not in wall.ties:
        return [NOT_THERE]
    other = (tie[0], tie[1], 1 - tie[2])
    if other in wall.ties:
        return [THERE_ALREADY]
    wall.ties[wall.ties.index(tie)] = other
    return [tie_parts(wall, wall.ties)]


def call_ties(wall, handed):
    return flattened(wall.ties)


TIE_CALLS = {
    20: call_tie,
    21: call_untie,
    22: call_tfirm,
    23: call_reach,
    24: call_tpart,
    25: call_tparts,
    26: call_ends,
    27: call_leans,
    28: call_tall,
    29: call_lean,
    30: call_tturn,
    31: call_tspare,
    32: call_tspares,
    33: call_tput,
    34: call_twould,
    35: call_tfalls,
    36: call_stiff,
    37: call_flip,
    38: call_ties,
}


def tie_answer(wall, number, handed):
    """What the call of this number answers; its squares, kinds and strips are there."""
    return TIE_CALLS[number](wall, handed)
