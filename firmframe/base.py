"""What all calls share: the wall, its squares and strips, and the numbers of the refusals."""

NONE_SUCH = -2
NOT_THERE = -6
NOT_BEGUN = -11
THERE_ALREADY = -17
OUT_OF_RANGE = -22
TOO_MANY = -28
NOT_SO = -33

KINDS = 2


class Wall:
    """Bars are pairs (row, column), ties are triples (row, column, kind), in the order in which they were told."""

    def __init__(self):
        # No wall that is begun has 0 rows, so 0 stands for one that isn't.
        self.rows = 0
        self.columns = 0
        self.bars = []
        self.ties = []


def strip_count(wall):
    return wall.rows + wall.columns


def column_strip(wall, column):
    return wall.rows + column


def squares(wall):
    """All squares as pairs (row, column), row by row."""
    found = []
    for row in range(wall.rows):
        for column in range(wall.columns):
            found.append((row, column))
    return found


def bent_squares(wall, way):
    """All squares of which row and column don't turn by as much, row by row."""
    return [square for square in squares(wall) if way[square[0]] != way[column_strip(wall, square[1])]]


def part_count(firsts):
    """How many parts there are, if of each strip its part's first is told."""
    return len([strip for strip in range(len(firsts)) if firsts[strip] == strip])


def counted(numbers):
    """The answer that tells how many there are, then these."""
    return [len(numbers)] + numbers


def flattened(places):
    """The answer that tells how many places there are, then the numbers of each."""
    answer = [len(places)]
    for place in places:
        answer.extend(place)
    return answer


def without(places, place):
    return [other for other in places if other != place]
