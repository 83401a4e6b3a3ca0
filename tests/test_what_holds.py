"""What holds, a to f, over many walls with bars and ties."""

import itertools
import random
import unittest

from tests.lines import ask, behind, both_kinds, braced, questions, some, squares, standing, subsets, tied

SIZES = ((1, 1), (1, 5), (5, 1), (2, 2), (2, 3), (3, 3), (2, 5), (4, 4), (5, 5))


def many_walls(turns):
    """Walls with some bars and some ties, sparse and dense ones: rows, columns, bars, ties."""
    for rows, columns in SIZES:
        chance = random.Random(100 * rows + columns)
        for turn in range(turns):
            places = squares(rows, columns)
            bars = some(chance, places)
            ties = some(chance, both_kinds(places))
            if turn % 2 == 0:
                bars = bars[:rows + columns]
                ties = ties[:rows + columns]
            yield rows, columns, bars, ties


def in_twos(numbers):
    return [tuple(numbers[at:at + 2]) for at in range(1, len(numbers), 2)]


class SingleTiesTest(unittest.TestCase):
    """a."""

    def check(self, rows, columns, bars):
        can, needed, firm, single, ties, tfirm = behind(
            braced(rows, columns, bars), ("can",), ("needed",), ("firm",), ("single",), ("ties",), ("tfirm",))
        self.assertEqual(can, [1 if firm[0] == 1 and needed == [0] else 0, needed[0]])
        if can[0] == 0:
            self.assertEqual([single, ties], [[-33], [0]])
        else:
            wanted = [place + (kind,) for place, kind in zip(bars, single[1:])]
            self.assertEqual(single[0], len(bars))
            self.assertEqual(ties, [len(bars)] + [number for tie in wanted for number in tie])
            self.assertEqual(tfirm, [1, 1])

    def test_each_bar_may_be_one_tie(self):
        for rows, columns in ((1, 1), (1, 5), (5, 1), (2, 2), (2, 3), (3, 2), (3, 3), (2, 4)):
            for bars in subsets(squares(rows, columns)):
                self.check(rows, columns, bars)

    def test_each_bar_may_be_one_tie_in_larger_walls(self):
        for rows, columns in ((2, 5), (4, 3), (4, 4), (5, 5)):
            chance = random.Random(rows + columns)
            for turn in range(40):
                self.check(rows, columns, chance.sample(squares(rows, columns), chance.randrange(10)))

    def test_as_many_could_be_found_by_ties_alone(self):
        for bars in subsets(squares(2, 3)):
            can, = behind(braced(2, 3, bars), ("can",))
            firm = any(
                behind(tied(2, 3, [bar + (kind,) for bar, kind in zip(bars, kinds)]), ("tfirm",))[0][0] == 1
                for kinds in itertools.product((0, 1), repeat=len(bars)))
            self.assertEqual(can[0] == 1, firm)


class TwoTiesTest(unittest.TestCase):
    """b."""

    def test_bars_as_two_ties_are_as_firm(self):
        for rows, columns, bars, ties in many_walls(12):
            found = behind(
                standing(rows, columns, bars, ties), ("change",), ("firm",), ("parts",), ("stills",), ("both",),
                ("tparts",), ("tfirm",), ("tall",), ("change",))
            change, firm, parts, stills, both, tparts, tfirm, tall, after = found
            self.assertEqual(both, [2 * len(bars), firm[1] + 1])
            self.assertEqual(tparts, parts)
            self.assertEqual(tfirm, [firm[0], firm[1] + 1])
            self.assertEqual(tall[1::2], [1 - still for still in stills[1:]])
            self.assertEqual(tall[2::2], tall[1::2])
            self.assertEqual(change[:2], [firm[1], firm[1] + 1])
            self.assertEqual(after, [firm[1]] + [firm[1] + 1] * 3)


class AtOnceTest(unittest.TestCase):
    """c."""

    def test_no_less_firm_than_by_either(self):
        for rows, columns, bars, ties in many_walls(12):
            asked = [("firm",), ("tfirm",), ("mixed",), ("tall",), ("stills",), ("change",)]
            asked += [("mleans",) + tie for tie in both_kinds(squares(rows, columns))]
            found = behind(standing(rows, columns, bars, ties), *asked)
            firm, tfirm, mixed, tall, stills, change = found[:6]
            leaning = [answer[0] for answer in found[6:]]
            self.assertGreaterEqual(mixed[0], max(firm[0], tfirm[0]))
            self.assertLessEqual(mixed[1], min(firm[1] + 1, tfirm[1]))
            self.assertEqual(change, [firm[1], firm[1] + 1, tfirm[1], mixed[1]])
            self.assertEqual(mixed[2], sum(leaning))
            for at, leans in enumerate(leaning):
                self.assertLessEqual(leans, tall[1 + at])
                self.assertLessEqual(leans, 1 - stills[1 + at // 2])

    def test_without_ties_as_by_bars_and_without_bars_as_by_ties(self):
        for rows, columns, bars, ties in many_walls(6):
            firm, mixed = behind(braced(rows, columns, bars), ("firm",), ("mixed",))
            self.assertEqual(mixed[:2], [firm[0], firm[1] + 1])
            tfirm, mixed, tall = behind(tied(rows, columns, ties), ("tfirm",), ("mixed",), ("tall",))
            self.assertEqual(mixed, tfirm + tall[:1])


class IdleTest(unittest.TestCase):
    """d."""

    def test_spare_bars_are_idle(self):
        for rows, columns, bars, ties in many_walls(12):
            spares, needed, idle = behind(
                standing(rows, columns, bars, ties), ("spares",), ("needed",), ("idle",))
            self.assertLessEqual(set(in_twos(spares)), set(in_twos(idle)))
            self.assertEqual(sorted(in_twos(spares) + in_twos(needed)), sorted(bars))

    def test_without_ties_just_these(self):
        for rows, columns, bars, ties in many_walls(6):
            spares, idle = behind(braced(rows, columns, bars), ("spares",), ("idle",))
            self.assertEqual(idle, spares)


class FirmTest(unittest.TestCase):
    """e."""

    def test_firm_just_if_nothing_shears_or_leans(self):
        for rows, columns, bars, ties in many_walls(12):
            firm, stills, tfirm, tall, mixed = behind(
                standing(rows, columns, bars, ties), ("firm",), ("stills",), ("tfirm",), ("tall",), ("mixed",))
            self.assertEqual(firm[0] == 1, firm[1] == 0)
            self.assertEqual(firm[0] == 1, stills[0] == rows * columns)
            self.assertEqual(tfirm[0] == 1, tfirm[1] == 1)
            self.assertEqual(tfirm[0] == 1, tall[0] == 0)
            self.assertEqual(mixed[0] == 1, mixed[2] == 0)

    def test_by_bars_firm_just_if_only_the_whole_turns(self):
        ways = [list(way) for way in itertools.product((0, 1), repeat=5)]
        for bars in subsets(squares(2, 3)):
            found = behind(braced(2, 3, bars), ("firm",), *[("turn", way) for way in ways])
            kept = [way for way, answer in zip(ways, found[1:]) if answer[0] == 1]
            # Each part may turn by 0 or by 1 as it likes; a firm wall only as a whole.
            self.assertEqual(len(kept), 2 ** (found[0][1] + 1))
            self.assertEqual(found[0][0] == 1, kept == [[0] * 5, [1] * 5])

    def test_by_ties_firm_just_if_only_the_whole_turns(self):
        ways = [list(way) for way in itertools.product((0, 1), repeat=4)]
        for ties in subsets(both_kinds(squares(2, 2))):
            found = behind(tied(2, 2, ties), ("tfirm",), ("tall",), *[("tturn", way) for way in ways])
            kept = [way for way, answer in zip(ways, found[2:]) if answer[0] == 1]
            self.assertEqual(found[0][0] == 1, kept == [[0] * 4, [1] * 4])
            leaning = [
                1 if any(way[row] - way[2 + column] == (1 if kind == 0 else -1) for way in kept) else 0
                for row, column, kind in both_kinds(squares(2, 2))]
            self.assertEqual(found[1], [sum(leaning)] + leaning)


class RefusedTest(unittest.TestCase):
    """f."""

    def test_what_is_refused_changes_nothing(self):
        for rows, columns, bars, ties in many_walls(4):
            wall = standing(rows, columns, bars, ties)
            places = both_kinds(squares(rows, columns)) + [(rows, 0, 0), (0, columns, 1), (0, 0, 2)]
            asked = [(name,) + tie for name in ("tie", "untie", "flip", "lean", "tspare", "tfalls") for tie in places]
            asked += [(name,) + tie[:2] for name in ("brace", "free", "spare", "falls") for tie in places]
            asked += [("single",), ("tput",), ("tturn", []), ("turn", [0]), ("begin", 6, rows), ("begin", columns, 0)]
            whole = [("all",), ("ties",), ("state",), ("count",), ("tall",), ("mixed",), ("idle",), ("tparts",)]
            before = behind(wall, *whole)
            refused = [call for call in asked if behind(wall, call)[0][0] < 0]
            self.assertGreater(len(refused), 10)
            for first in range(0, len(refused), 300):
                some_refused = refused[first:first + 300]
                found = behind(wall, *some_refused, *whole)
                self.assertLess(max(answer[0] for answer in found[:len(some_refused)]), 0)
                self.assertEqual([len(answer) for answer in found[:len(some_refused)]], [1] * len(some_refused))
                self.assertEqual(found[len(some_refused):], before)

    def test_nothing_but_a_refusal_is_below_0(self):
        for rows, columns, bars, ties in many_walls(2):
            wall = standing(rows, columns, bars, ties)
            for call in questions(rows, columns):
                answer = ask(*wall, call)[-1]
                if answer[0] < 0:
                    self.assertIn(answer, ([-6], [-17], [-28], [-33]))
                else:
                    self.assertGreaterEqual(min(answer), 0)


if __name__ == "__main__":
    unittest.main()
