"""Many walls, and many lines of calls, held against the document's words once more."""

import random
import unittest

from tests.lines import ARGUMENTS, MOST, NAMES, ask, both_kinds, questions, some, squares, standing, subsets
from tests.models import Frame

SIZES = ((1, 1), (1, 2), (1, 5), (5, 1), (2, 2), (2, 3), (3, 3), (2, 4), (2, 5), (5, 5))
CHANGING = [("both",), ("single",), ("clear",)]


class HeldAgainstTest(unittest.TestCase):

    def check_line(self, calls):
        frame = Frame()
        for call, answer in zip(calls, ask(*calls)):
            self.assertEqual(answer, frame.call(*call), (call, calls))


class EveryWallTest(HeldAgainstTest):

    def check(self, rows, columns, bars, ties):
        """All that may be asked of this wall, at most 300 at once, then each change by itself."""
        wall = standing(rows, columns, bars, ties)
        asked = questions(rows, columns)
        for first in range(0, len(asked), 300):
            self.check_line(wall + asked[first:first + 300])
        for call in CHANGING:
            self.check_line(wall + [call, ("ties",), ("all",), ("tfirm",), ("mixed",), ("idle",), ("state",)])

    def test_all_bars_of_small_walls(self):
        for rows, columns in ((1, 1), (1, 4), (4, 1), (2, 2), (2, 3), (3, 2)):
            for bars in subsets(squares(rows, columns)):
                self.check(rows, columns, bars, [])
                self.check(rows, columns, bars[::-1], [])

    def test_all_ties_of_small_walls(self):
        for rows, columns in ((1, 1), (1, 3), (3, 1), (2, 2)):
            chance = random.Random(rows * 7 + columns)
            for ties in subsets(both_kinds(squares(rows, columns))):
                self.check(rows, columns, [], ties[::-1])
                self.check(rows, columns, some(chance, squares(rows, columns)), ties)

    def test_all_bars_and_ties_of_the_smallest(self):
        for rows, columns in ((1, 1), (1, 2), (2, 1)):
            for bars in subsets(squares(rows, columns)):
                for ties in subsets(both_kinds(squares(rows, columns))):
                    self.check(rows, columns, bars, ties)

    def test_larger_walls(self):
        for rows, columns in ((1, 5), (5, 1), (3, 3), (2, 4), (2, 5), (4, 3), (5, 5)):
            chance = random.Random(rows * 7 + columns)
            for turn in range(6):
                places = squares(rows, columns)
                self.check(rows, columns, some(chance, places), some(chance, both_kinds(places)))
                self.check(rows, columns, chance.sample(places, min(9, len(places))), [])
                self.check(rows, columns, [], chance.sample(both_kinds(places), min(9, len(places))))


class EveryLineTest(HeldAgainstTest):

    def a_call(self, chance, rows, columns, busy):
        name = chance.choice(NAMES)
        turn = chance.random()
        if turn < busy:
            name = chance.choice(("brace", "tie", "tie"))
        elif turn < busy + 0.1:
            name = chance.choice(("free", "untie", "untie", "flip"))
        if name in ("both", "clear", "begin") and chance.random() < 0.8:
            name = chance.choice(("tput", "single"))
        limits = {"m": 6, "n": 6, "i": rows, "k": rows, "j": columns, "l": columns, "s": rows + columns, "d": 2}
        letters = ARGUMENTS[name]
        if letters == "w":
            length = rows + columns if chance.random() < 0.9 else chance.randrange(13)
            return (name, [chance.choice((0, 1, 2, MOST)) for turn in range(length)])
        far = chance.random() < 0.05
        return (name,) + tuple(
            chance.choice((limits[letter], MOST)) if far and chance.random() < 0.6 else chance.randrange(limits[letter])
            for letter in letters)

    def test_400_calls_in_any_order(self):
        for turn in range(60):
            chance = random.Random(turn)
            rows, columns = SIZES[turn % len(SIZES)]
            busy = (0.05, 0.2, 0.4)[turn % 3]
            calls = [self.a_call(chance, rows, columns, busy) for turn in range(turn % 4)] + [("begin", rows, columns)]
            while len(calls) < 400:
                call = self.a_call(chance, rows, columns, busy)
                # A begin of another size would leave most of the rest without a square.
                if call[0] != "begin" or not (1 <= call[1] <= 5 and 1 <= call[2] <= 5):
                    calls.append(call)
            self.check_line(calls)

    def test_begins_among_others(self):
        for turn in range(20):
            chance = random.Random(1000 + turn)
            calls = []
            while len(calls) < 400:
                rows, columns = chance.choice(SIZES)
                calls.append(("begin", rows, columns))
                calls += [self.a_call(chance, rows, columns, 0.3) for turn in range(chance.randrange(60))]
            self.check_line(calls[:400])


if __name__ == "__main__":
    unittest.main()
