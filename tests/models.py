"""The document's words once more, by walks from strip to strip, to hold the program's answers against."""

import itertools

from tests.lines import ARGUMENTS


def walk(steps, start):
    """All strips to which one comes from start by pairs (from, to)."""
    seen = {start}
    waiting = [start]
    while waiting:
        here = waiting.pop()
        for source, target in steps:
            if source == here and target not in seen:
                seen.add(target)
                waiting.append(target)
    return seen


def bar_steps(rows, bars):
    return [(row, rows + column) for row, column in bars] + [(rows + column, row) for row, column in bars]


def tie_steps(rows, ties):
    return [(row, rows + column) if kind == 0 else (rows + column, row) for row, column, kind in ties]


def firsts(strips, steps):
    reached = [walk(steps, strip) for strip in range(strips)]
    return [
        min(other for other in range(strips) if other in reached[strip] and strip in reached[other])
        for strip in range(strips)
    ]


class Bars:
    """What's told by bars alone, of a wall with these bars."""

    def __init__(self, rows, columns, bars):
        self.rows = rows
        self.columns = columns
        self.bars = list(bars)
        self.strips = rows + columns
        self.squares = [(row, column) for row in range(rows) for column in range(columns)]
        self.firsts = firsts(self.strips, bar_steps(rows, bars))
        self.parts = len(set(self.firsts))
        self.shears = self.parts - 1

    def other(self, bars):
        return Bars(self.rows, self.columns, bars)

    def keeps(self, square):
        return self.firsts[square[0]] == self.firsts[self.rows + square[1]]

    def kept(self):
        return {square for square in self.squares if self.keeps(square)}

    def less(self, bar):
        return self.other([other for other in self.bars if other != bar])

    def more(self, bar):
        return self.other(self.bars + [bar])

    def spare(self, bar):
        return self.less(bar).shears == self.shears

    def thin(self):
        left = self
        for bar in self.bars[::-1]:
            if left.spare(bar):
                left = left.less(bar)
        return left.bars

    def put(self):
        wall = self
        while wall.shears > 0:
            wall = wall.more(next(square for square in wall.squares if not wall.keeps(square)))
        return wall.bars[len(self.bars):]


def numbers(places):
    """How many there are, then the numbers of each."""
    return [len(places)] + [number for place in places for number in place]


def one(truth):
    return 1 if truth else 0


class Ties:
    """What's told by these ties alone; bars count as two of them if they are handed in so."""

    def __init__(self, rows, columns, ties):
        self.rows = rows
        self.columns = columns
        self.ties = list(ties)
        self.strips = rows + columns
        self.places = [(row, column, kind) for row in range(rows) for column in range(columns) for kind in (0, 1)]
        self.steps = tie_steps(rows, ties)
        self.reached = [walk(self.steps, strip) for strip in range(self.strips)]
        self.firsts = firsts(self.strips, self.steps)
        self.parts = len(set(self.firsts))

    def other(self, ties):
        return Ties(self.rows, self.columns, ties)

    def less(self, tie):
        return self.other([other for other in self.ties if other != tie])

    def part(self, strip):
        return [other for other in range(self.strips) if self.firsts[other] == self.firsts[strip]]

    def leans(self, tie):
        (source, target), = tie_steps(self.rows, [tie])
        return target not in self.reached[source]

    def leaning(self):
        return [one(self.leans(tie)) for tie in self.places]

    def ends(self):
        return [first for first in sorted(set(self.firsts)) if self.reached[first] == set(self.part(first))]

    def starts(self):
        return [
            first for first in sorted(set(self.firsts))
            if {strip for strip in range(self.strips) if first in self.reached[strip]} == set(self.part(first))]

    def lean(self, tie):
        (source, target), = tie_steps(self.rows, [tie])
        return [one(strip in self.reached[source]) for strip in range(self.strips)]

    def spare(self, tie):
        return not self.less(tie).leans(tie)

    def keeps(self, way):
        return all(way[source] <= way[target] for source, target in self.steps)

    def more_that_make_firm(self, most):
        """The first of the smallest sets of ties, or None."""
        missing = [tie for tie in self.places if tie not in self.ties]
        for size in range(most + 1):
            for more in itertools.combinations(missing, size):
                if firm_by(self.strips, self.steps + tie_steps(self.rows, more)):
                    return list(more)
        return None


def firm_by(strips, steps):
    back = [(target, source) for source, target in steps]
    return len(walk(steps, 0)) == strips and len(walk(back, 0)) == strips


class Frame:
    """Every call once more; a call is told by its name, and answers a list."""

    def __init__(self):
        self.rows = None

    def call(self, name, *handed):
        if name == "begin":
            return self.begin(*handed)
        if self.rows is None:
            return [-11]
        if any(value >= self.limit(letter) for letter, value in zip(ARGUMENTS[name], handed) if letter != "w"):
            return [-2]
        return getattr(self, "call_" + name)(*handed)

    def limit(self, letter):
        limits = {"i": self.rows, "k": self.rows, "j": self.columns, "l": self.columns, "d": 2}
        return limits.get(letter, self.rows + self.columns)

    def begin(self, rows, columns):
        if not (1 <= rows <= 5 and 1 <= columns <= 5):
            return [-22]
        self.rows = rows
        self.columns = columns
        self.bars = []
        self.ties = []
        return [0]

    def by_bars(self):
        return Bars(self.rows, self.columns, self.bars)

    def by_ties(self):
        return Ties(self.rows, self.columns, self.ties)

    def as_two(self, bars):
        return [bar + (kind,) for bar in bars for kind in (0, 1)]

    def by_both(self):
        return Ties(self.rows, self.columns, self.as_two(self.bars) + self.ties)

    def bent(self, way):
        return sum(way[row] != way[self.rows + column] for row, column in self.by_bars().squares)

    def call_brace(self, *bar):
        if bar in self.bars:
            return [-17]
        self.bars.append(bar)
        return [self.by_bars().shears]

    def call_free(self, *bar):
        if bar not in self.bars:
            return [-6]
        self.bars.remove(bar)
        return [self.by_bars().shears]

    def call_firm(self):
        return [one(self.by_bars().shears == 0), self.by_bars().shears]

    def call_parts(self):
        return [self.rows + self.columns] + self.by_bars().firsts

    def call_part(self, strip):
        labels = self.by_bars().firsts
        return numbers([[other] for other in range(len(labels)) if labels[other] == labels[strip]])

    def call_still(self, *square):
        return [one(self.by_bars().keeps(square))]

    def call_stills(self):
        wall = self.by_bars()
        return [len(wall.kept())] + [one(wall.keeps(square)) for square in wall.squares]

    def call_alike(self, row, column, other_row, other_column):
        labels = self.by_bars().firsts
        columns = labels[self.rows:]
        return [one(labels[row] == labels[other_row] and columns[column] == columns[other_column])]

    def call_spare(self, *bar):
        return [one(self.by_bars().spare(bar))] if bar in self.bars else [-6]

    def call_spares(self):
        return numbers([bar for bar in self.bars if self.by_bars().spare(bar)])

    def call_put(self):
        return numbers(self.by_bars().put())

    def call_thin(self):
        return numbers(self.by_bars().thin())

    def call_turn(self, way):
        if len(way) != self.rows + self.columns:
            return [-22]
        return [one(all(way[row] == way[self.rows + column] for row, column in self.bars)), self.bent(way)]

    def call_falls(self, *bar):
        if bar not in self.bars:
            return [-6]
        wall = self.by_bars()
        return [len(wall.kept() - wall.less(bar).kept()), wall.less(bar).shears]

    def call_would(self, *bar):
        if bar in self.bars:
            return [-17]
        wall = self.by_bars()
        return [wall.more(bar).shears, len(wall.more(bar).kept() - wall.kept())]

    def call_least(self):
        strips = self.rows + self.columns
        return [strips - 1, len(self.bars) - (strips - self.by_bars().parts)]

    def call_all(self):
        return numbers(self.bars)

    def call_row(self, row):
        return numbers([[column] for column in range(self.columns) if (row, column) in self.bars])

    def call_column(self, column):
        return numbers([[row] for row in range(self.rows) if (row, column) in self.bars])

    def call_tie(self, *tie):
        if tie in self.ties:
            return [-17]
        self.ties.append(tie)
        return [self.by_ties().parts]

    def call_untie(self, *tie):
        if tie not in self.ties:
            return [-6]
        self.ties.remove(tie)
        return [self.by_ties().parts]

    def call_tfirm(self):
        return [one(self.by_ties().parts == 1), self.by_ties().parts]

    def call_reach(self, strip):
        return numbers([[other] for other in sorted(self.by_ties().reached[strip])])

    def call_tpart(self, strip):
        return numbers([[other] for other in self.by_ties().part(strip)])

    def call_tparts(self):
        return [self.rows + self.columns] + self.by_ties().firsts

    def call_ends(self):
        wall = self.by_ties()
        return [len(wall.ends()), len(wall.starts())] + wall.ends() + wall.starts()

    def call_leans(self, *tie):
        return [one(self.by_ties().leans(tie))]

    def call_tall(self):
        leaning = self.by_ties().leaning()
        return [sum(leaning)] + leaning

    def call_lean(self, *tie):
        if not self.by_ties().leans(tie):
            return [-33]
        return [self.rows + self.columns] + self.by_ties().lean(tie)

    def call_tturn(self, way):
        if len(way) != self.rows + self.columns:
            return [-22]
        return [one(self.by_ties().keeps(way)), self.bent(way)]

    def call_tspare(self, *tie):
        return [one(self.by_ties().spare(tie))] if tie in self.ties else [-6]

    def call_tspares(self):
        return numbers([tie for tie in self.ties if self.by_ties().spare(tie)])

    def call_tput(self):
        if self.rows * self.columns > 9:
            return [-28]
        more = self.by_ties().more_that_make_firm(4)
        return [-33] if more is None else numbers(more)

    def call_twould(self, *tie):
        if tie in self.ties:
            return [-17]
        now = self.by_ties()
        then = now.other(self.ties + [tie])
        return [then.parts, sum(now.leaning()) - sum(then.leaning())]

    def call_tfalls(self, *tie):
        if tie not in self.ties:
            return [-6]
        now = self.by_ties()
        then = now.less(tie)
        return [then.parts, sum(then.leaning()) - sum(now.leaning())]

    def call_stiff(self, row, column):
        labels = self.by_ties().firsts
        there = [kind for kind in (0, 1) if (row, column, kind) in self.ties]
        return [one(labels[row] == labels[self.rows + column]), one(there == [0, 1])]

    def call_flip(self, row, column, kind):
        if (row, column, kind) not in self.ties:
            return [-6]
        if (row, column, 1 - kind) in self.ties:
            return [-17]
        self.ties = [(row, column, 1 - kind) if tie == (row, column, kind) else tie for tie in self.ties]
        return [self.by_ties().parts]

    def call_ties(self):
        return numbers(self.ties)

    def call_both(self):
        self.ties = self.as_two(self.bars)
        return [2 * len(self.bars), self.by_ties().parts]

    def call_single(self):
        if len(self.bars) > 9:
            return [-28]
        for kinds in itertools.product((0, 1), repeat=len(self.bars)):
            ties = [bar + (kind,) for bar, kind in zip(self.bars, kinds)]
            if firm_by(self.rows + self.columns, tie_steps(self.rows, ties)):
                self.ties = ties
                return [len(kinds)] + list(kinds)
        return [-33]

    def needed(self):
        return [bar for bar in self.bars if not self.by_bars().spare(bar)]

    def call_can(self):
        return [one(self.by_bars().shears == 0 and self.needed() == []), len(self.needed())]

    def call_needed(self):
        return numbers(self.needed())

    def call_mixed(self):
        wall = self.by_both()
        return [one(wall.parts == 1), wall.parts, sum(wall.leaning())]

    def call_mleans(self, *tie):
        return [one(self.by_both().leans(tie))]

    def call_mpart(self, strip):
        return numbers([[other] for other in self.by_both().part(strip)])

    def call_idle(self):
        idle = []
        for bar in self.bars:
            rest = self.as_two([other for other in self.bars if other != bar]) + self.ties
            if self.by_ties().other(rest).parts == self.by_both().parts:
                idle.append(bar)
        return numbers(idle)

    def call_clear(self):
        there = len(self.ties)
        self.ties = []
        return [there]

    def call_change(self):
        two = self.by_ties().other(self.as_two(self.bars))
        return [self.by_bars().shears, two.parts, self.by_ties().parts, self.by_both().parts]

    def call_count(self):
        return [len(self.bars), len(self.ties), self.rows + self.columns]

    def call_state(self):
        return [self.rows, self.columns, len(self.bars), len(self.ties)]
