"""The calls on one wall, told as one list of whole numbers."""

from firmframe.bars import bar_answer
from firmframe.base import KINDS
from firmframe.base import NONE_SUCH
from firmframe.base import NOT_BEGUN
from firmframe.base import OUT_OF_RANGE
from firmframe.base import Wall
from firmframe.base import counted
from firmframe.base import strip_count
from firmframe.both import both_answer
from firmframe.ties import tie_answer

MOST_ROWS = 5
MOST_COLUMNS = 5

BEGIN = 0
FIRST_TIE_CALL = 20
FIRST_BOTH_CALL = 39

WAY = "w"

# By the call's number, a letter for each argument: m, n sizes, i, k rows, j, l columns, s a strip, d a kind, w a way.
ARGUMENTS = (
    "mn", "ij", "ij", "", "", "s", "ij", "", "ijkl", "ij",
    "", "", "", "w", "ij", "ij", "", "", "i", "j",
    "ijd", "ijd", "", "s", "s", "", "", "ijd", "", "ijd",
    "w", "ijd", "", "", "ijd", "ijd", "ij", "ijd", "", "",
    "", "", "", "", "ijd", "s", "", "", "", "",
    "",
)


def is_there(wall, letter, value):
    """Whether the wall has the row, column, strip or kind of this number."""
    if letter == "i" or letter == "k":
        return value < wall.rows
    if letter == "j" or letter == "l":
        return value < wall.columns
    if letter == "s":
        return value < strip_count(wall)
    return value < KINDS


def all_there(wall, letters, handed):
    if letters == WAY:
        return True
    return all([is_there(wall, letter, value) for letter, value in zip(letters, handed)])


def begin(wall, rows, columns):
    if rows < 1 or rows > MOST_ROWS or columns < 1 or columns > MOST_COLUMNS:
        return [OUT_OF_RANGE]
    wall.rows = rows
    wall.columns = columns
    wall.bars = []
    wall.ties = []
    return [0]


def answer(wall, number, handed):
    """What one call answers; the wall is changed as the call asks."""
    if number == BEGIN:
        return begin(wall, handed[0], handed[1])
    if wall.rows == 0:
        return [NOT_BEGUN]
    if not all_there(wall, ARGUMENTS[number], handed):
        return [NONE_SUCH]
    if number < FIRST_TIE_CALL:
        return bar_answer(wall, number, handed)
    if number < FIRST_BOTH_CALL:
        return tie_answer(wall, number, handed)
    return both_answer(wall, number, handed)


def answers(calls):
    """For each call, in order, how many numbers are answered, then these."""
    wall = Wall()
    given = []
    at = 0
    while at < len(calls):
        number = calls[at]
        first = at + 1
        size = len(ARGUMENTS[number])
        if ARGUMENTS[number] == WAY:
            size = calls[first]
            first = first + 1
        numbers = answer(wall, number, calls[first:first + size])
        given.extend(counted(numbers))
        at = first + size
    return given
