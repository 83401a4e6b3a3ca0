"""The document's words once more, by walks from strip to strip, to hold the program's answers against."""


def walk(steps, start):
    """All strips to which one comes from start by pairs (from, to)."""
    seen = {start}
    waiting = [start]
    while waiting:
        here = waiting.pop()
        for source, target in steps:
            if source == here and target not in seen:
                seen.add(target)
                waiting.append(target)
    return seen


def bar_steps(rows, bars):
    return [(row, rows + column) for row, column in bars] + [(rows + column, row) for row, column in bars]


def tie_steps(rows, ties):
    return [(row, rows + column) if kind == 0 else (rows + column, row) for row, column, kind in ties]


def firsts(strips, steps):
    reached = [walk(steps, strip) for strip in range(strips)]
    return [
        min(other for other in range(strips) if other in reached[strip] and strip in reached[other])
        for strip in range(strips)
    ]


class Bars:
    """What's told by bars alone, of a wall with these bars."""

    def __init__(self, rows, columns, bars):
        self.rows = rows
        self.columns = columns
        self.bars = list(bars)
        self.strips = rows + columns
        self.squares = [(row, column) for row in range(rows) for column in range(columns)]
        self.firsts = firsts(self.strips, bar_steps(rows, bars))
        self.parts = len(set(self.firsts))
        self.shears = self.parts - 1

    def other(self, bars):
        return Bars(self.rows, self.columns, bars)

    def keeps(self, square):
        return self.firsts[square[0]] == self.firsts[self.rows + square[1]]

    def kept(self):
        return {square for square in self.squares if self.keeps(square)}

    def less(self, bar):
        return self.other([other for other in self.bars if other != bar])

    def more(self, bar):
        return self.other(self.bars + [bar])

    def spare(self, bar):
        return self.less(bar).shears == self.shears

    def thin(self):
        left = self
        for bar in self.bars[::-1]:
            if left.spare(bar):
                left = left.less(bar)
        return left.bars

    def put(self):
        wall = self
        while wall.shears > 0:
            wall = wall.more(next(square for square in wall.squares if not wall.keeps(square)))
        return wall.bars[len(self.bars):]
