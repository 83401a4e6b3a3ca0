"""Promise 4: bars made into ties, two of each or one of each."""

import unittest

from tests.lines import MOST, RING, ROUND, ask, both_kinds, braced, on_bars, on_both, squares

# Ten bars that are one ring through all strips of 5 by 5.
LONG_RING = [(row, column % 5) for row in range(5) for column in (row, row + 1)]


class TwoTiesTest(unittest.TestCase):

    def test_one_square(self):
        self.assertEqual(on_bars(1, 1, [(0, 0)], ("both",), ("ties",), ("tfirm",)), [
            [2, 1], [2, 0, 0, 0, 0, 0, 1], [1, 1]])

    def test_in_the_bars_order_kind_0_ahead_of_1(self):
        self.assertEqual(
            on_bars(2, 2, [(1, 1), (0, 0)], ("both",), ("ties",)),
            [[4, 2], [4, 1, 1, 0, 1, 1, 1, 0, 0, 0, 0, 0, 1]])

    def test_none_else(self):
        self.assertEqual(
            on_both(2, 2, [(1, 1)], [(0, 0, 1), (1, 1, 1), (0, 1, 0)], ("both",), ("ties",), ("tparts",)),
            [[2, 3], [2, 1, 1, 0, 1, 1, 1], [4, 0, 1, 2, 1]])

    def test_no_bars(self):
        self.assertEqual(on_bars(2, 2, [], ("both",), ("ties",)), [[0, 4], [0]])
        self.assertEqual(on_both(1, 1, [], both_kinds([(0, 0)]), ("both",), ("ties",)), [[0, 2], [0]])

    def test_ring(self):
        self.assertEqual(on_bars(2, 2, RING, ("both",), ("count",)), [[8, 1], [4, 8, 4]])

    def test_many_sizes(self):
        for rows, columns in ((1, 5), (5, 1), (3, 3), (2, 5), (5, 5)):
            bars = squares(rows, columns)
            wanted = [2 * len(bars)] + [number for tie in both_kinds(bars) for number in tie]
            self.assertEqual(on_bars(rows, columns, bars, ("both",), ("ties",)), [[2 * len(bars), 1], wanted])

    def test_bars_stay(self):
        self.assertEqual(on_bars(2, 2, RING[:2], ("both",), ("all",), ("firm",))[1:], [[2, 0, 0, 0, 1], [0, 1]])

    def test_both_then_one_freed(self):
        self.assertEqual(
            on_bars(1, 2, [(0, 0), (0, 1)], ("both",), ("free", 0, 0), ("ties",), ("tfirm",), ("mixed",), ("both",)),
            [[4, 1], [1], [4, 0, 0, 0, 0, 0, 1, 0, 1, 0, 0, 1, 1], [1, 1], [1, 1, 0], [2, 2]])

    def test_both_then_one_braced_or_tied(self):
        self.assertEqual(
            on_bars(1, 2, [(0, 1)], ("both",), ("brace", 0, 0), ("tie", 0, 0, 1), ("ties",), ("tie", 0, 1, 0)),
            [[2, 2], [0], [2], [3, 0, 1, 0, 0, 1, 1, 0, 0, 1], [-17]])

    def test_twice(self):
        self.assertEqual(on_bars(2, 2, RING[:3], ("both",), ("both",), ("count",)), [[6, 1], [6, 1], [3, 6, 4]])


class SingleTest(unittest.TestCase):

    def test_ring_of_four(self):
        self.assertEqual(
            on_bars(2, 2, RING, ("single",), ("ties",), ("tfirm",)),
            [[4, 0, 1, 0, 1], [4, 0, 0, 0, 0, 1, 1, 1, 1, 0, 1, 0, 1], [1, 1]])

    def test_in_the_bars_order(self):
        bars = [(1, 0), (0, 0), (1, 1), (0, 1)]
        self.assertEqual(
            on_bars(2, 2, bars, ("single",), ("ties",)),
            [[4, 0, 1, 1, 0], [4, 1, 0, 0, 0, 0, 1, 1, 1, 1, 0, 1, 0]])

    def test_0_at_the_first_place_where_two_differ(self):
        self.assertEqual(on_bars(3, 3, squares(3, 3), ("single",)), [[9, 0, 0, 1, 0, 0, 1, 1, 1, 0]])
        self.assertEqual(on_bars(2, 3, squares(2, 3), ("single",)), [[6, 0, 0, 1, 1, 1, 0]])

    def test_none_else(self):
        ties = both_kinds([(2, 2)]) + [(0, 0, 1)]
        self.assertEqual(
            on_both(2, 2, RING, both_kinds(squares(2, 2)), ("single",), ("ties",), ("count",)),
            [[4, 0, 1, 0, 1], [4, 0, 0, 0, 0, 1, 1, 1, 1, 0, 1, 0, 1], [4, 4, 4]])
        self.assertEqual(on_both(3, 3, RING, ties, ("single",), ("ties",)), [[-33], [3, 2, 2, 0, 2, 2, 1, 0, 0, 1]])

    def test_ties_that_are_there_do_not_help(self):
        self.assertEqual(on_both(1, 1, [(0, 0)], [(0, 0, 1)], ("single",), ("ties",)), [[-33], [1, 0, 0, 1]])

    def test_one_square(self):
        self.assertEqual(on_bars(1, 1, [(0, 0)], ("single",), ("ties",)), [[-33], [0]])

    def test_no_bars(self):
        self.assertEqual(on_bars(1, 1, [], ("single",)), [[-33]])
        self.assertEqual(on_both(1, 1, [], both_kinds([(0, 0)]), ("single",), ("tfirm",)), [[-33], [1, 1]])
        self.assertEqual(on_bars(5, 5, [], ("single",)), [[-33]])

    def test_row_of_bars(self):
        self.assertEqual(on_bars(1, 5, squares(1, 5), ("single",)), [[-33]])
        self.assertEqual(on_bars(5, 1, squares(5, 1), ("single",)), [[-33]])

    def test_not_firm_by_bars(self):
        self.assertEqual(on_bars(3, 3, RING, ("single",)), [[-33]])
        self.assertEqual(on_bars(2, 5, squares(2, 5)[:4], ("single",)), [[-33]])

    def test_one_that_is_needed(self):
        self.assertEqual(on_bars(2, 3, RING + [(1, 2)], ("single",), ("brace", 0, 2), ("single",)), [
            [-33], [0], [6, 0, 0, 1, 1, 0, 1]])

    def test_nine_and_ten_bars(self):
        bars = squares(2, 5)
        self.assertEqual(on_bars(2, 5, bars[:8] + bars[9:], ("single",)), [[-33]])
        self.assertEqual(on_bars(2, 5, bars, ("single",), ("ties",)), [[-28], [0]])
        self.assertEqual(on_bars(2, 5, bars, ("free", 0, 0), ("single",), ("brace", 0, 0), ("single",)), [
            [0], [-33], [0], [-28]])
        self.assertEqual(on_bars(5, 5, LONG_RING, ("can",), ("single",)), [[1, 0], [-28]])
        self.assertEqual(on_bars(5, 5, squares(5, 5), ("single",)), [[-28]])

    def test_nine_bars_in_a_larger_wall(self):
        bars = squares(3, 3)
        self.assertEqual(on_bars(5, 5, bars, ("single",)), [[-33]])
        self.assertEqual(on_bars(4, 2, squares(4, 2), ("single",)), [[8, 0, 1, 0, 1, 0, 1, 1, 0]])

    def test_too_many_goes_ahead_of_not_so(self):
        self.assertEqual(on_bars(5, 5, squares(2, 5), ("firm",), ("single",)), [[0, 3], [-28]])

    def test_too_many_changes_nothing(self):
        self.assertEqual(
            on_both(2, 5, squares(2, 5), [(1, 4, 1), (0, 0, 0)], ("single",), ("ties",), ("state",)),
            [[-28], [2, 1, 4, 1, 0, 0, 0], [2, 5, 10, 2]])

    def test_bars_stay(self):
        self.assertEqual(on_bars(2, 2, RING, ("single",), ("all",), ("firm",))[1:], [
            [4, 0, 0, 0, 1, 1, 1, 1, 0], [1, 0]])

    def test_twice(self):
        self.assertEqual(on_bars(2, 2, RING, ("single",), ("flip", 0, 0, 0), ("single",), ("tfirm",)), [
            [4, 0, 1, 0, 1], [4], [4, 0, 1, 0, 1], [1, 1]])


class CanTest(unittest.TestCase):

    def test_one_square(self):
        self.assertEqual(on_bars(1, 1, [(0, 0)], ("can",), ("needed",)), [[0, 1], [1, 0, 0]])

    def test_no_bars(self):
        self.assertEqual(on_bars(1, 1, [], ("can",), ("needed",)), [[0, 0], [0]])
        self.assertEqual(on_bars(5, 5, [], ("can",), ("needed",)), [[0, 0], [0]])

    def test_ring_of_four(self):
        self.assertEqual(on_bars(2, 2, RING, ("can",), ("needed",)), [[1, 0], [0]])
        self.assertEqual(on_bars(2, 2, RING[:3], ("can",), ("needed",)), [[0, 3], [3, 0, 0, 0, 1, 1, 1]])

    def test_none_needed_but_not_firm(self):
        self.assertEqual(on_bars(3, 3, RING, ("can",), ("needed",)), [[0, 0], [0]])

    def test_row_of_bars_all_needed(self):
        bars = squares(1, 5)[::-1]
        self.assertEqual(on_bars(1, 5, bars, ("can",), ("needed",)), [[0, 5], [5, 0, 4, 0, 3, 0, 2, 0, 1, 0, 0]])
        bars = squares(5, 1)
        self.assertEqual(on_bars(5, 1, bars, ("can",), ("needed",)), [[0, 5], [5, 0, 0, 1, 0, 2, 0, 3, 0, 4, 0]])

    def test_some_are_needed(self):
        bars = [(2, 2)] + RING + [(0, 2)]
        self.assertEqual(on_bars(3, 3, bars, ("firm",), ("can",), ("needed",)), [[1, 0], [0, 2], [2, 2, 2, 0, 2]])

    def test_many(self):
        for rows, columns in ((2, 5), (3, 3), (5, 5)):
            self.assertEqual(on_bars(rows, columns, squares(rows, columns), ("can",), ("needed",)), [[1, 0], [0]])

    def test_ties_count_for_nothing(self):
        self.assertEqual(on_both(1, 1, [(0, 0)], both_kinds([(0, 0)]), ("can",), ("needed",)), [[0, 1], [1, 0, 0]])
        self.assertEqual(on_both(2, 2, [], ROUND, ("can",), ("needed",)), [[0, 0], [0]])


class ClearTest(unittest.TestCase):

    def test_clear(self):
        self.assertEqual(
            on_both(2, 2, [(0, 0)], ROUND, ("clear",), ("ties",), ("tfirm",), ("clear",), ("all",), ("tie", 0, 0, 0)),
            [[4], [0], [0, 4], [0], [1, 0, 0], [4]])

    def test_bare(self):
        self.assertEqual(on_bars(1, 1, [], ("clear",), ("state",)), [[0], [1, 1, 0, 0]])

    def test_all(self):
        self.assertEqual(on_both(5, 5, [], both_kinds(squares(5, 5)), ("clear",), ("count",)), [[50], [0, 0, 10]])
        self.assertEqual(on_bars(5, 5, squares(5, 5), ("both",), ("clear",), ("count",)), [
            [50, 1], [50], [25, 0, 10]])


class CountTest(unittest.TestCase):

    def test_every_size(self):
        for rows, columns in squares(6, 6):
            if rows > 0 and columns > 0:
                self.assertEqual(on_bars(rows, columns, [], ("state",), ("count",)), [
                    [rows, columns, 0, 0], [0, 0, rows + columns]])

    def test_bars_and_ties(self):
        self.assertEqual(on_both(2, 3, [(0, 0)], [(0, 0, 0), (0, 0, 1), (1, 2, 1)], ("state",), ("count",)), [
            [2, 3, 1, 3], [1, 3, 5]])
        everything = both_kinds(squares(5, 5))
        self.assertEqual(on_both(5, 5, squares(5, 5), everything, ("state",), ("count",)), [
            [5, 5, 25, 50], [25, 50, 10]])

    def test_as_they_come_and_go(self):
        calls = [("brace", 0, 0), ("state",), ("tie", 0, 0, 1), ("count",), ("flip", 0, 0, 1), ("count",)]
        calls += [("untie", 0, 0, 0), ("free", 0, 0), ("state",), ("count",)]
        self.assertEqual(on_bars(1, 1, [], *calls), [
            [0], [1, 1, 1, 0], [2], [1, 1, 2], [2], [1, 1, 2], [2], [1], [1, 1, 0, 0], [0, 0, 2]])

    def test_refused_ones_are_not_counted(self):
        calls = braced(1, 1, [(0, 0), (0, 0), (0, MOST)]) + [("begin", 6, 6), ("tie", 0, 0, 2), ("state",), ("count",)]
        self.assertEqual(ask(*calls), [[0], [0], [-17], [-2], [-22], [-2], [1, 1, 1, 0], [1, 0, 2]])

    def test_begin_again(self):
        self.assertEqual(on_both(2, 2, RING, ROUND, ("begin", 3, 1), ("state",), ("count",), ("ties",)), [
            [0], [3, 1, 0, 0], [0, 0, 4], [0]])


if __name__ == "__main__":
    unittest.main()
