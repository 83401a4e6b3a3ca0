"""The calls on the wall's ties: what is told of it by ties alone."""

from firmframe.base import NOT_THERE
from firmframe.base import THERE_ALREADY
from firmframe.base import column_strip
from firmframe.base import counted
from firmframe.base import part_count
from firmframe.base import strip_count


def stepped(wall, table, tie):
    """The table of where one comes to, once one comes by this tie, too."""
    source = tie[0]
    target = column_strip(wall, tie[1])
    if tie[2] == 1:
        source = column_strip(wall, tie[1])
        target = tie[0]
    # Who comes to the source comes now to all that the target comes to; from the target itself nothing is new.
    further = table[target]
    return [known | further if (known >> source) & 1 == 1 else known for known in table]


def tie_table(wall, ties):
    """Of each strip a number: its bit b is 1 if one comes from that strip to strip b by these ties."""
    table = [1 << strip for strip in range(strip_count(wall))]
    for tie in ties:
        table = stepped(wall, table, tie)
    return table


def comes(table, source, target):
    return (table[source] >> target) & 1 == 1


def together(table, strip):
    """All strips that hang together with this one, it too, rising."""
    return [other for other in range(len(table)) if comes(table, strip, other) and comes(table, other, strip)]


def tie_firsts(wall, ties):
    """Of each strip its part's first, by these ties alone."""
    table = tie_table(wall, ties)
    return [together(table, strip)[0] for strip in range(len(table))]


def tie_parts(wall):
    return part_count(tie_firsts(wall, wall.ties))


def call_tie(wall, handed):
    tie = tuple(handed)
    if tie in wall.ties:
        return [THERE_ALREADY]
    wall.ties.append(tie)
    return [tie_parts(wall)]


def call_untie(wall, handed):
    tie = tuple(handed)
    if tie not in wall.ties:
        return [NOT_THERE]
    wall.ties.remove(tie)
    return [tie_parts(wall)]


def call_tfirm(wall, handed):
    parts = tie_parts(wall)
    return [1 if parts == 1 else 0, parts]


def call_reach(wall, handed):
    table = tie_table(wall, wall.ties)
    return counted([strip for strip in range(len(table)) if comes(table, handed[0], strip)])


def call_tpart(wall, handed):
    return counted(together(tie_table(wall, wall.ties), handed[0]))


def call_tparts(wall, handed):
    return counted(tie_firsts(wall, wall.ties))


TIE_CALLS = {
    20: call_tie,
    21: call_untie,
    22: call_tfirm,
    23: call_reach,
    24: call_tpart,
    25: call_tparts,
}


def tie_answer(wall, number, handed):
    """What the call of this number answers; its squares, kinds and strips are there."""
    return TIE_CALLS[number](wall, handed)
