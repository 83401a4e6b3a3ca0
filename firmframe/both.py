"""The calls on bars and ties at once, and on the whole wall."""

from firmframe.bars import is_spare
from firmframe.bars import shears
from firmframe.base import KINDS
from firmframe.base import NOT_SO
from firmframe.base import TOO_MANY
from firmframe.base import counted
from firmframe.base import flattened
from firmframe.base import strip_count
from firmframe.base import without
from firmframe.ties import is_firm
from firmframe.ties import lean_count
from firmframe.ties import may_lean
from firmframe.ties import stepped
from firmframe.ties import tie_parts
from firmframe.ties import tie_table
from firmframe.ties import together
from firmframe.ties import two_ties

MOST_BARS = 9


def mixed_ties(wall, bars):
    """These bars, each as two ties, and all ties."""
    return two_ties(bars) + wall.ties


def mixed_table(wall):
    return tie_table(wall, mixed_ties(wall, wall.bars))


def mixed_parts(wall, bars):
    return tie_parts(wall, mixed_ties(wall, bars))


def needed_bars(wall):
    return [bar for bar in wall.bars if not is_spare(wall, wall.bars, bar)]


def first_kinds(wall, table, bars):
    """The first choice of one kind for each of these bars by which it's firm, or None."""
    if len(bars) == 0:
        return [] if is_firm(table) else None
    for kind in range(KINDS):
        tie = (bars[0][0], bars[0][1], kind)
        behind = first_kinds(wall, stepped(wall, table, tie), bars[1:])
        if behind is not None:
            return [kind] + behind
    return None


def call_both(wall, handed):
    wall.ties = two_ties(wall.bars)
    return [len(wall.ties), tie_parts(wall, wall.ties)]


def call_single(wall, handed):
    if len(wall.bars) > MOST_BARS:
        return [TOO_MANY]
    kinds = first_kinds(wall, tie_table(wall, []), wall.bars)
    if kinds is None:
        return [NOT_SO]
    wall.ties = [(bar[0], bar[1], kind) for bar, kind in zip(wall.bars, kinds)]
    return counted(kinds)


def call_can(wall, handed):
    needed = len(needed_bars(wall))
    return [1 if shears(wall, wall.bars) == 0 and needed == 0 else 0, needed]


def call_needed(wall, handed):
    return flattened(needed_bars(wall))


def call_mixed(wall, handed):
    parts = mixed_parts(wall, wall.bars)
    return [1 if parts == 1 else 0, parts, lean_count(wall, mixed_ties(wall, wall.bars))]


def call_mleans(wall, handed):
    return [1 if may_lean(wall, mixed_table(wall), handed) else 0]


def call_mpart(wall, handed):
    return counted(together(mixed_table(wall), handed[0]))


def call_idle(wall, handed):
    parts = mixed_parts(wall, wall.bars)
    return flattened([bar for bar in wall.bars if mixed_parts(wall, without(wall.bars, bar)) == parts])


def call_clear(wall, handed):
    there = len(wall.ties)
    wall.ties = []
    return [there]


def call_change(wall, handed):
    by_two = tie_parts(wall, two_ties(wall.bars))
    return [shears(wall, wall.bars), by_two, tie_parts(wall, wall.ties), mixed_parts(wall, wall.bars)]


def call_count(wall, handed):
    return [len(wall.bars), len(wall.ties), strip_count(wall)]


def call_state(wall, handed):
    return [wall.rows, wall.columns, len(wall.bars), len(wall.ties)]


BOTH_CALLS = {
    39: call_both,
    40: call_single,
    41: call_can,
    42: call_needed,
    43: call_mixed,
    44: call_mleans,
    45: call_mpart,
    46: call_idle,
    47: call_clear,
    48: call_change,
    49: call_count,
    50: call_state,
}


def both_answer(wall, number, handed):
    """What the call of this number answers; its squares, kinds and strips are there."""
    return BOTH_CALLS[number](wall, handed)
