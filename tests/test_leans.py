"""Promise 3: ends and starts, how squares may lean by ties alone, and ways to turn."""

import unittest

from tests.lines import FAR, MOST, ROUND, behind, both_kinds, on_both, squares, tied
from tests.lines import on_ties as on

# Row 0, column 0, row 1, column 1: one comes from each to those behind it.
CHAIN = ROUND[:3]


class EndsTest(unittest.TestCase):

    def test_bare_walls(self):
        self.assertEqual(on(1, 1, [], ("ends",)), [[2, 2, 0, 1, 0, 1]])
        for rows, columns in ((1, 5), (5, 1), (3, 3), (2, 5), (5, 5)):
            strips = list(range(rows + columns))
            self.assertEqual(on(rows, columns, [], ("ends",)), [[len(strips)] * 2 + strips + strips])

    def test_firm_walls_have_one_part_that_is_both(self):
        self.assertEqual(on(1, 1, both_kinds([(0, 0)]), ("ends",)), [[1, 1, 0, 0]])
        self.assertEqual(on(2, 2, ROUND, ("ends",)), [[1, 1, 0, 0]])
        self.assertEqual(on(5, 5, both_kinds(squares(5, 5)), ("ends",)), [[1, 1, 0, 0]])

    def test_ends_ahead_of_starts(self):
        self.assertEqual(on(1, 1, [(0, 0, 0)], ("ends",)), [[1, 1, 1, 0]])
        self.assertEqual(on(1, 1, [(0, 0, 1)], ("ends",)), [[1, 1, 0, 1]])
        self.assertEqual(on(2, 2, CHAIN, ("ends",)), [[1, 1, 3, 0]])

    def test_many_ends_and_one_start(self):
        out = [(0, 4, 0), (0, 2, 0), (0, 0, 0), (0, 1, 0), (0, 3, 0)]
        self.assertEqual(on(1, 5, out, ("ends",)), [[5, 1, 1, 2, 3, 4, 5, 0]])
        home = [(row, column, 1) for row, column, kind in out]
        self.assertEqual(on(1, 5, home, ("ends",)), [[1, 5, 0, 1, 2, 3, 4, 5]])

    def test_by_their_firsts(self):
        ties = both_kinds([(1, 1)]) + [(0, 1, 0)]
        self.assertEqual(on(2, 2, ties, ("ends",)), [[2, 2, 1, 2, 0, 2]])

    def test_what_lies_between_is_neither(self):
        self.assertEqual(on(3, 3, CHAIN, ("ends",)), [[3, 3, 2, 4, 5, 0, 2, 5]])

    def test_bars_count_for_nothing(self):
        self.assertEqual(on_both(1, 1, [(0, 0)], [(0, 0, 0)], ("ends",)), [[1, 1, 1, 0]])


class LeansTest(unittest.TestCase):

    def test_leans(self):
        self.assertEqual(on(1, 1, [], ("leans", 0, 0, 0), ("leans", 0, 0, 1)), [[1], [1]])
        self.assertEqual(on(1, 1, [(0, 0, 0)], ("leans", 0, 0, 0), ("leans", 0, 0, 1)), [[0], [1]])
        self.assertEqual(on(1, 1, [(0, 0, 1)], ("leans", 0, 0, 0), ("leans", 0, 0, 1)), [[1], [0]])
        self.assertEqual(on(1, 1, both_kinds([(0, 0)]), ("leans", 0, 0, 0), ("leans", 0, 0, 1)), [[0], [0]])

    def test_leans_round_the_corner(self):
        self.assertEqual(
            on(2, 2, CHAIN, ("leans", 0, 1, 0), ("leans", 0, 1, 1), ("leans", 1, 0, 0), ("leans", 1, 0, 1)),
            [[0], [1], [1], [0]])

    def test_tall(self):
        self.assertEqual(on(1, 1, [], ("tall",)), [[2, 1, 1]])
        self.assertEqual(on(1, 1, [(0, 0, 0)], ("tall",)), [[1, 0, 1]])
        self.assertEqual(on(1, 1, [(0, 0, 1)], ("tall",)), [[1, 1, 0]])
        self.assertEqual(on(2, 2, CHAIN, ("tall",)), [[4, 0, 1, 0, 1, 1, 0, 0, 1]])
        self.assertEqual(on(2, 2, ROUND, ("tall",)), [[0] * 9])

    def test_tall_row_by_row(self):
        self.assertEqual(on(2, 3, [(0, 2, 0), (1, 0, 1)], ("tall",)), [[10, 1, 1, 1, 1, 0, 1, 1, 0, 1, 1, 1, 1]])
        self.assertEqual(on(1, 5, [(0, 3, 1)], ("tall",)), [[9, 1, 1, 1, 1, 1, 1, 1, 0, 1, 1]])
        self.assertEqual(on(5, 1, [(3, 0, 1)], ("tall",)), [[9, 1, 1, 1, 1, 1, 1, 1, 0, 1, 1]])

    def test_tall_of_many_squares(self):
        self.assertEqual(on(5, 5, [], ("tall",)), [[50] + [1] * 50])
        self.assertEqual(on(5, 5, both_kinds(squares(5, 5)), ("tall",)), [[0] * 51])
        self.assertEqual(on(2, 5, [(row, column, 0) for row, column in squares(2, 5)], ("tall",)), [[10] + [0, 1] * 10])

    def test_bars_count_for_nothing(self):
        calls = [("leans", 0, 0, 0), ("tall",), ("lean", 0, 0, 0)]
        self.assertEqual(on_both(1, 1, [(0, 0)], [(0, 0, 1)], *calls), [[1], [1, 1, 0], [2, 1, 0]])


class LeanTest(unittest.TestCase):

    def test_one_square(self):
        self.assertEqual(on(1, 1, [], ("lean", 0, 0, 0), ("lean", 0, 0, 1)), [[2, 1, 0], [2, 0, 1]])
        self.assertEqual(on(1, 1, [(0, 0, 0)], ("lean", 0, 0, 0), ("lean", 0, 0, 1)), [[-33], [2, 0, 1]])
        self.assertEqual(on(1, 1, [(0, 0, 1)], ("lean", 0, 0, 0), ("lean", 0, 0, 1)), [[2, 1, 0], [-33]])

    def test_all_to_which_one_comes_turn_too(self):
        self.assertEqual(
            on(2, 2, CHAIN, ("lean", 0, 0, 1), ("lean", 0, 1, 1), ("lean", 1, 0, 0), ("lean", 1, 1, 1)),
            [[4, 0, 1, 1, 1], [4, 0, 0, 0, 1], [4, 0, 1, 0, 1], [4, 0, 0, 0, 1]])

    def test_may_not_lean_so(self):
        self.assertEqual(
            on(2, 2, CHAIN, ("lean", 0, 0, 0), ("lean", 0, 1, 0), ("lean", 1, 0, 1), ("lean", 1, 1, 0)), [[-33]] * 4)
        self.assertEqual(on(2, 2, ROUND, *[("lean",) + tie for tie in both_kinds(squares(2, 2))]), [[-33]] * 8)

    def test_rows_come_first_in_the_way(self):
        self.assertEqual(on(2, 5, [], ("lean", 1, 4, 0), ("lean", 1, 4, 1)), [
            [7, 0, 1, 0, 0, 0, 0, 0], [7, 0, 0, 0, 0, 0, 0, 1]])

    def test_the_way_keeps_what_is_tied(self):
        for ties in (CHAIN, CHAIN[1:], [(0, 0, 0), (0, 1, 0), (0, 2, 1)], both_kinds([(2, 2)]) + CHAIN):
            wall = tied(3, 3, ties)
            for lean in both_kinds(squares(3, 3)):
                answer, = behind(wall, ("lean",) + lean)
                if answer != [-33]:
                    way = answer[1:]
                    ahead = way[lean[0]] - way[3 + lean[1]]
                    self.assertEqual(ahead, 1 if lean[2] == 0 else -1)
                    self.assertEqual(behind(wall, ("tturn", way))[0][0], 1)


class TturnTest(unittest.TestCase):

    def test_kinds(self):
        ways = [("tturn", [1, 2]), ("tturn", [2, 1]), ("tturn", [2, 2])]
        self.assertEqual(on(1, 1, [], *ways), [[1, 1], [1, 1], [1, 0]])
        self.assertEqual(on(1, 1, [(0, 0, 0)], *ways), [[1, 1], [0, 1], [1, 0]])
        self.assertEqual(on(1, 1, [(0, 0, 1)], *ways), [[0, 1], [1, 1], [1, 0]])
        self.assertEqual(on(1, 1, both_kinds([(0, 0)]), *ways), [[0, 1], [0, 1], [1, 0]])

    def test_every_tie_is_looked_at(self):
        self.assertEqual(
            on(2, 2, CHAIN, ("tturn", [1, 3, 2, 4]), ("tturn", [1, 3, 3, 4]), ("tturn", [4, 3, 2, 1])),
            [[1, 4], [1, 3], [0, 4]])
        self.assertEqual(
            on(2, 2, CHAIN, ("tturn", [3, 3, 2, 4]), ("tturn", [1, 3, 4, 4]), ("tturn", [1, 3, 2, 2])),
            [[0, 4], [0, 4], [0, 4]])

    def test_counts_all_squares(self):
        self.assertEqual(on(2, 3, [(0, 0, 0)], ("tturn", [5, 6, 5, 6, 7])), [[1, 4]])
        self.assertEqual(on(5, 5, [], ("tturn", [0] * 5 + [MOST] * 5), ("tturn", [7] * 10)), [[1, 25], [1, 0]])
        self.assertEqual(on(1, 2, [], ("tturn", [1, 1, 0])), [[1, 1]])
        self.assertEqual(on(2, 1, [], ("tturn", [1, 0, 1])), [[1, 1]])

    def test_large_numbers(self):
        self.assertEqual(
            on(1, 1, [(0, 0, 0)], ("tturn", [0, MOST]), ("tturn", [MOST, MOST - 1]), ("tturn", [MOST, MOST])),
            [[1, 1], [0, 1], [1, 0]])

    def test_of_the_wrong_length(self):
        for length in range(13):
            found = on(2, 2, CHAIN, ("tturn", [0] * length), ("ties",))
            self.assertEqual(found[0], [1, 0] if length == 4 else [-22])
            self.assertEqual(found[1][0], 3)
        self.assertEqual(on(5, 5, [], ("tturn", [MOST] * 10), ("tturn", [0] * 9), ("tturn", [])), [
            [1, 0], [-22], [-22]])

    def test_bars_count_for_nothing(self):
        self.assertEqual(on_both(1, 1, [(0, 0)], [], ("tturn", [0, 1]), ("turn", [0, 1])), [[1, 1], [0, 1]])
        self.assertEqual(on(1, 1, both_kinds([(0, 0)]), ("turn", [0, 1])), [[1, 1]])


class StiffTest(unittest.TestCase):

    def test_one_square(self):
        self.assertEqual(on(1, 1, [], ("stiff", 0, 0)), [[0, 0]])
        self.assertEqual(on(1, 1, [(0, 0, 0)], ("stiff", 0, 0)), [[0, 0]])
        self.assertEqual(on(1, 1, [(0, 0, 1)], ("stiff", 0, 0)), [[0, 0]])
        self.assertEqual(on(1, 1, both_kinds([(0, 0)]), ("stiff", 0, 0)), [[1, 1]])

    def test_stiff_without_both_ties(self):
        self.assertEqual(on(2, 2, ROUND, *[("stiff",) + square for square in squares(2, 2)]), [[1, 0]] * 4)
        self.assertEqual(on(2, 2, ROUND + [(0, 1, 0)], ("stiff", 0, 1), ("stiff", 1, 1)), [[1, 1], [1, 0]])
        self.assertEqual(on(2, 2, both_kinds(squares(2, 2))[2:], ("stiff", 0, 0)), [[1, 0]])

    def test_not_stiff_one_way(self):
        self.assertEqual(on(2, 2, CHAIN, *[("stiff",) + square for square in squares(2, 2)]), [[0, 0]] * 4)

    def test_rows_and_columns_are_not_mistaken(self):
        self.assertEqual(on(1, 5, both_kinds([(0, 4)]), ("stiff", 0, 4), ("stiff", 0, 3)), [[1, 1], [0, 0]])
        self.assertEqual(on(5, 1, both_kinds([(4, 0)]), ("stiff", 4, 0), ("stiff", 3, 0)), [[1, 1], [0, 0]])

    def test_bars_count_for_nothing(self):
        self.assertEqual(on_both(1, 1, [(0, 0)], [(0, 0, 1)], ("stiff", 0, 0)), [[0, 0]])


class NoneSuchTest(unittest.TestCase):

    def test_no_such_square_or_kind(self):
        for name in ("leans", "lean"):
            for values in FAR:
                with self.subTest(name=name, values=values):
                    self.assertEqual(on(2, 3, [(0, 0, 0)], (name,) + values), [[-2]])

    def test_no_such_square(self):
        for row, column in ((2, 0), (0, 3), (2, 3), (MOST, 0), (0, MOST)):
            self.assertEqual(on(2, 3, [], ("stiff", row, column)), [[-2]])

    def test_none_such_goes_ahead_of_not_so(self):
        firm = both_kinds(squares(1, 1))
        self.assertEqual(on(1, 1, firm, ("lean", 0, 0, 0), ("lean", 0, 0, 2), ("lean", 1, 0, 0)), [[-33], [-2], [-2]])


if __name__ == "__main__":
    unittest.main()
