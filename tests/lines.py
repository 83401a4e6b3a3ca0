"""Calls told by their names, and their answers taken apart, so that the tests read like the document."""

from firmframe.walls import answers

NAMES = (
    "begin brace free firm parts part still stills alike spare spares put thin turn falls would least all row column "
    "tie untie tfirm reach tpart tparts ends leans tall lean tturn tspare tspares tput twould tfalls stiff flip ties "
    "both single can needed mixed mleans mpart idle clear change count state"
).split()

NUMBERS = {name: number for number, name in enumerate(NAMES)}

# What each call is handed, as a text of the document's letters.
ARGUMENTS = {
    "begin": "mn", "brace": "ij", "free": "ij", "firm": "", "parts": "", "part": "s", "still": "ij", "stills": "",
    "alike": "ijkl", "spare": "ij", "spares": "", "put": "", "thin": "", "turn": "w", "falls": "ij", "would": "ij",
    "least": "", "all": "", "row": "i", "column": "j", "tie": "ijd", "untie": "ijd", "tfirm": "", "reach": "s",
    "tpart": "s", "tparts": "",
}

LATER = {
    "ends": "", "leans": "ijd", "tall": "", "lean": "ijd", "tturn": "w", "tspare": "ijd", "tspares": "", "tput": "",
    "twould": "ijd", "tfalls": "ijd", "stiff": "ij", "flip": "ijd", "ties": "", "both": "", "single": "", "can": "",
    "needed": "", "mixed": "", "mleans": "ijd", "mpart": "s", "idle": "", "clear": "", "change": "", "count": "",
    "state": "",
}

MOST = 4294967295


def told(calls):
    """One list of whole numbers for calls like ("brace", 0, 1) or ("turn", [1, 2])."""
    numbers = []
    for call in calls:
        numbers.append(NUMBERS[call[0]])
        for value in call[1:]:
            if isinstance(value, list):
                numbers.append(len(value))
                numbers.extend(value)
            else:
                numbers.append(value)
    return numbers


def taken_apart(given):
    found = []
    at = 0
    while at < len(given):
        size = given[at]
        found.append(given[at + 1:at + 1 + size])
        at += 1 + size
    return found


def ask(*calls):
    """The answer of each call, as a list."""
    found = taken_apart(answers(told(calls)))
    assert len(found) == len(calls), (calls, found)
    return found


def last(*calls):
    """What the last of these calls answers."""
    return ask(*calls)[-1]


def braced(rows, columns, bars):
    """A wall with these bars."""
    return [("begin", rows, columns)] + [("brace", row, column) for row, column in bars]


def tied(rows, columns, ties):
    """A wall with these ties."""
    return [("begin", rows, columns)] + [("tie", row, column, kind) for row, column, kind in ties]


def squares(rows, columns):
    return [(row, column) for row in range(rows) for column in range(columns)]


# All that may be asked of a wall of 2 by 2 in this stage without changing it.
QUESTIONS = (
    [(name,) for name in (
        "firm", "parts", "stills", "spares", "put", "thin", "least", "all", "tfirm", "tparts")]
    + [(name, strip) for name in ("part", "reach", "tpart") for strip in range(4)]
    + [(name, line) for name in ("row", "column") for line in range(2)]
    + [(name, row, column) for name in ("still", "spare", "falls", "would") for row, column in squares(2, 2)]
    + [("alike", 0, 0, 1, 1), ("alike", 0, 0, 0, 1), ("alike", 0, 0, 1, 0)]
    + [("turn", [1, 1, 1, 1]), ("turn", [1, 0, 1, 0])]
)
