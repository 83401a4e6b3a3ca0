"""Calls told by their names, and their answers taken apart, so that the tests read like the document."""

import itertools

from firmframe.walls import answers

NAMES = (
    "begin brace free firm parts part still stills alike spare spares put thin turn falls would least all row column "
    "tie untie tfirm reach tpart tparts ends leans tall lean tturn tspare tspares tput twould tfalls stiff flip ties "
    "both single can needed mixed mleans mpart idle clear change count state"
).split()

NUMBERS = {name: number for number, name in enumerate(NAMES)}

# What each call is handed, as a text of the document's letters.
ARGUMENTS = {
    "begin": "mn", "brace": "ij", "free": "ij", "firm": "", "parts": "", "part": "s", "still": "ij", "stills": "",
    "alike": "ijkl", "spare": "ij", "spares": "", "put": "", "thin": "", "turn": "w", "falls": "ij", "would": "ij",
    "least": "", "all": "", "row": "i", "column": "j", "tie": "ijd", "untie": "ijd", "tfirm": "", "reach": "s",
    "tpart": "s", "tparts": "", "ends": "", "leans": "ijd", "tall": "", "lean": "ijd", "tturn": "w", "tspare": "ijd",
    "tspares": "", "tput": "", "twould": "ijd", "tfalls": "ijd", "stiff": "ij", "flip": "ijd", "ties": "", "both": "",
    "single": "", "can": "", "needed": "", "mixed": "", "mleans": "ijd", "mpart": "s", "idle": "", "clear": "",
    "change": "", "count": "", "state": "",
}

MOST = 4294967295

RING = [(0, 0), (0, 1), (1, 1), (1, 0)]
# Row 0, column 0, row 1, column 1 and back to row 0.
ROUND = [(0, 0, 0), (1, 0, 1), (1, 1, 0), (0, 1, 1)]
# What a wall of 2 by 3 has no tie for.
FAR = ((2, 0, 0), (0, 3, 0), (0, 0, 2), (2, 3, 2), (MOST, 0, 1), (0, MOST, 1), (0, 0, MOST), (MOST, MOST, MOST))


def told(calls):
    """One list of whole numbers for calls like ("brace", 0, 1) or ("turn", [1, 2])."""
    numbers = []
    for call in calls:
        numbers.append(NUMBERS[call[0]])
        for value in call[1:]:
            if isinstance(value, list):
                numbers.append(len(value))
                numbers.extend(value)
            else:
                numbers.append(value)
    return numbers


def taken_apart(given):
    found = []
    at = 0
    while at < len(given):
        size = given[at]
        found.append(given[at + 1:at + 1 + size])
        at += 1 + size
    return found


def ask(*calls):
    """The answer of each call, as a list."""
    found = taken_apart(answers(told(calls)))
    assert len(found) == len(calls), (calls, found)
    return found


def last(*calls):
    """What the last of these calls answers."""
    return ask(*calls)[-1]


def braced(rows, columns, bars):
    """A wall with these bars."""
    return [("begin", rows, columns)] + [("brace", row, column) for row, column in bars]


def tied(rows, columns, ties):
    """A wall with these ties."""
    return [("begin", rows, columns)] + [("tie", row, column, kind) for row, column, kind in ties]


def standing(rows, columns, bars, ties):
    """A wall with these bars and these ties."""
    return braced(rows, columns, bars) + tied(rows, columns, ties)[1:]


def behind(wall, *calls):
    """What these calls answer behind those that make the wall."""
    return ask(*wall, *calls)[len(wall):]


def on_bars(rows, columns, bars, *calls):
    """What these calls answer on a wall with these bars alone."""
    return behind(braced(rows, columns, bars), *calls)


def on_ties(rows, columns, ties, *calls):
    """What these calls answer on a wall with these ties alone."""
    return behind(tied(rows, columns, ties), *calls)


def on_both(rows, columns, bars, ties, *calls):
    """What these calls answer on a wall with these bars and these ties."""
    return behind(standing(rows, columns, bars, ties), *calls)


def squares(rows, columns):
    return [(row, column) for row in range(rows) for column in range(columns)]


def both_kinds(places):
    return [(row, column, kind) for row, column in places for kind in (0, 1)]


def subsets(things):
    for size in range(len(things) + 1):
        yield from itertools.combinations(things, size)


def some(chance, things):
    """Some of these, in some order."""
    return chance.sample(things, chance.randrange(len(things) + 1))


def questions(rows, columns):
    """All that may be asked of a wall of that size without changing it; of ways to turn, a few."""
    places = squares(rows, columns)
    strips = rows + columns
    ways = ([1] * strips, [strip % 2 for strip in range(strips)], list(range(strips)), [0] * rows + [1] * columns)
    found = [(name,) for name in ALONE]
    found += [(name, strip) for name in ("part", "reach", "tpart", "mpart") for strip in range(strips)]
    found += [("row", row) for row in range(rows)] + [("column", column) for column in range(columns)]
    found += [(name,) + place for name in ("still", "spare", "falls", "would", "stiff") for place in places]
    found += [
        (name,) + tie for name in ("leans", "lean", "tspare", "twould", "tfalls", "mleans")
        for tie in both_kinds(places)]
    found += [("alike",) + places[0] + place for place in places]
    return found + [(name, way) for name in ("turn", "tturn") for way in ways]


ALONE = (
    "firm", "parts", "stills", "spares", "put", "thin", "least", "all", "tfirm", "tparts", "ends", "tall", "tspares",
    "tput", "ties", "can", "needed", "mixed", "idle", "change", "count", "state",
)

QUESTIONS = questions(2, 2)
