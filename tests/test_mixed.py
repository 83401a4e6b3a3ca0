"""Promise 5: bars, each as two ties, and ties at once."""

import unittest

from tests.lines import FAR, MOST, RING, ROUND, both_kinds, on_both, squares


class MixedTest(unittest.TestCase):

    def test_one_square(self):
        for bars, ties, wanted in (
                ([], [], [0, 2, 2]), ([(0, 0)], [], [1, 1, 0]), ([], [(0, 0, 0)], [0, 2, 1]),
                ([], [(0, 0, 1)], [0, 2, 1]), ([], both_kinds([(0, 0)]), [1, 1, 0]),
                ([(0, 0)], [(0, 0, 0)], [1, 1, 0]), ([(0, 0)], [(0, 0, 1)], [1, 1, 0]),
                ([(0, 0)], both_kinds([(0, 0)]), [1, 1, 0])):
            with self.subTest(bars=bars, ties=ties):
                self.assertEqual(on_both(1, 1, bars, ties, ("mixed",)), [wanted])

    def test_firm_though_neither_is(self):
        calls = [("firm",), ("tfirm",), ("mixed",)]
        self.assertEqual(on_both(1, 2, [(0, 0)], both_kinds([(0, 1)]), *calls), [[0, 1], [0, 2], [1, 1, 0]])
        self.assertEqual(on_both(2, 2, [(0, 0), (1, 1)], [(0, 1, 0), (1, 0, 0)], *calls), [[0, 1], [0, 4], [1, 1, 0]])
        self.assertEqual(on_both(2, 2, [(0, 0)], ROUND[1:], *calls), [[0, 2], [0, 4], [1, 1, 0]])

    def test_not_firm(self):
        self.assertEqual(on_both(2, 2, [(0, 0)], [(0, 1, 0)], ("mixed",)), [[0, 3, 5]])
        self.assertEqual(on_both(2, 2, [(0, 0), (1, 1)], [(0, 1, 0)], ("mixed",)), [[0, 2, 2]])

    def test_many_sizes(self):
        for rows, columns in ((1, 5), (5, 1), (3, 3), (2, 5), (5, 5)):
            places = squares(rows, columns)
            self.assertEqual(
                on_both(rows, columns, [], [], ("mixed",)), [[0, rows + columns, 2 * rows * columns]])
            self.assertEqual(on_both(rows, columns, places, [], ("mixed",)), [[1, 1, 0]])
            self.assertEqual(on_both(rows, columns, places[::2], both_kinds(places[1::2]), ("mixed",)), [[1, 1, 0]])

    def test_mleans(self):
        calls = [("mleans",) + tie for tie in both_kinds(squares(2, 2))]
        self.assertEqual(on_both(2, 2, [(0, 0)], [(0, 1, 0)], *calls), [[0], [0], [0], [1], [1], [1], [1], [1]])
        self.assertEqual(on_both(2, 2, [(0, 0), (1, 1)], [(0, 1, 0)], *calls), [
            [0], [0], [0], [1], [1], [0], [0], [0]])
        self.assertEqual(on_both(2, 2, RING[:3], [], *calls), [[0]] * 8)

    def test_mleans_of_a_square_with_a_bar_and_one_tie(self):
        calls = [("mleans", 0, 0, 0), ("mleans", 0, 0, 1), ("leans", 0, 0, 0), ("leans", 0, 0, 1)]
        self.assertEqual(on_both(1, 1, [(0, 0)], [(0, 0, 0)], *calls), [[0], [0], [0], [1]])

    def test_mpart(self):
        calls = [("mpart", strip) for strip in range(4)]
        self.assertEqual(on_both(2, 2, [(0, 0)], [(0, 1, 0)], *calls), [[2, 0, 2], [1, 1], [2, 0, 2], [1, 3]])
        self.assertEqual(on_both(2, 2, [(0, 0)], both_kinds([(1, 0)]), *calls), [
            [3, 0, 1, 2], [3, 0, 1, 2], [3, 0, 1, 2], [1, 3]])
        self.assertEqual(on_both(5, 5, squares(5, 5), [], ("mpart", 9)), [[10] + list(range(10))])

    def test_asking_changes_nothing(self):
        calls = [("mixed",), ("mleans", 0, 0, 0), ("mpart", 0), ("idle",), ("change",), ("ties",), ("all",)]
        self.assertEqual(on_both(2, 2, [(1, 1), (0, 0)], [(1, 1, 1), (0, 1, 0)], *calls)[5:], [
            [2, 1, 1, 1, 0, 1, 0], [2, 1, 1, 0, 0]])


class IdleTest(unittest.TestCase):

    def test_one_square(self):
        for ties, wanted in (
                ([], [0]), ([(0, 0, 0)], [0]), ([(0, 0, 1)], [0]), (both_kinds([(0, 0)]), [1, 0, 0])):
            with self.subTest(ties=ties):
                self.assertEqual(on_both(1, 1, [(0, 0)], ties, ("idle",)), [wanted])

    def test_no_bars(self):
        self.assertEqual(on_both(2, 2, [], ROUND, ("idle",)), [[0]])
        self.assertEqual(on_both(2, 2, [], [], ("idle",)), [[0]])

    def test_spare_bars_are_idle(self):
        self.assertEqual(on_both(2, 2, RING, [], ("idle",)), [[4, 0, 0, 0, 1, 1, 1, 1, 0]])
        self.assertEqual(on_both(3, 3, [(2, 2)] + RING[::-1], [(0, 2, 1)], ("idle",)), [[4, 1, 0, 1, 1, 0, 1, 0, 0]])

    def test_a_tie_that_makes_a_bar_idle(self):
        calls = [("idle",), ("tie", 0, 0, 0), ("idle",), ("needed",)]
        self.assertEqual(on_both(2, 2, [(0, 0)], ROUND[1:], *calls), [[0], [1], [1, 0, 0], [1, 0, 0]])
        calls = [("tie", 1, 0, 0), ("idle",), ("tie", 1, 0, 1), ("idle",), ("spares",)]
        self.assertEqual(on_both(2, 2, RING[:3], [], *calls), [[4], [0], [3], [3, 0, 0, 0, 1, 1, 1], [0]])

    def test_each_by_itself_as_told(self):
        self.assertEqual(on_both(2, 2, RING[::-1], ROUND, ("idle",)), [[4, 1, 0, 1, 1, 0, 1, 0, 0]])
        bars = squares(1, 5)[::-1]
        self.assertEqual(on_both(1, 5, bars, both_kinds([(0, 1), (0, 3)]), ("idle",)), [[2, 0, 3, 0, 1]])
        bars = squares(5, 1)
        self.assertEqual(on_both(5, 1, bars, both_kinds([(3, 0), (1, 0)]), ("idle",)), [[2, 1, 0, 3, 0]])

    def test_as_many_parts_is_not_firm(self):
        self.assertEqual(on_both(3, 3, [(2, 2), (0, 0)], both_kinds([(2, 2)]), ("idle",), ("mixed",)), [
            [1, 2, 2], [0, 4, 14]])

    def test_both_then_all_are_idle(self):
        self.assertEqual(on_both(1, 3, [(0, 2), (0, 0)], [], ("idle",), ("both",), ("idle",)), [
            [0], [4, 2], [2, 0, 2, 0, 0]])

    def test_many(self):
        bars = squares(5, 5)
        self.assertEqual(on_both(5, 5, bars, [], ("idle",)), [[25] + [number for bar in bars for number in bar]])


class ChangeTest(unittest.TestCase):

    def test_change(self):
        self.assertEqual(on_both(1, 1, [], [], ("change",)), [[1, 2, 2, 2]])
        self.assertEqual(on_both(1, 1, [(0, 0)], [(0, 0, 1)], ("change",)), [[0, 1, 2, 1]])
        self.assertEqual(on_both(1, 1, [], both_kinds([(0, 0)]), ("change",)), [[1, 2, 1, 1]])
        self.assertEqual(on_both(2, 2, [(0, 0), (1, 1)], [(0, 1, 0), (1, 0, 0)], ("change",)), [[1, 2, 4, 1]])
        self.assertEqual(on_both(3, 3, [(2, 1)], both_kinds([(0, 0), (0, 2)]), ("change",)), [[4, 5, 4, 3]])

    def test_both_then_one_freed(self):
        self.assertEqual(on_both(2, 2, RING[:3], [], ("both",), ("free", 0, 1), ("change",), ("idle",)), [
            [6, 1], [1], [1, 2, 1, 1], [2, 0, 0, 1, 1]])

    def test_many(self):
        self.assertEqual(on_both(5, 5, squares(5, 5), [], ("change",)), [[0, 1, 10, 1]])
        self.assertEqual(on_both(2, 5, [(0, 4)], [], ("change",)), [[5, 6, 7, 6]])


class NoneSuchTest(unittest.TestCase):

    def test_no_such_square_or_kind(self):
        for values in FAR:
            with self.subTest(values=values):
                self.assertEqual(on_both(2, 3, [(0, 0)], [], ("mleans",) + values), [[-2]])

    def test_rows_and_columns_are_not_mistaken(self):
        self.assertEqual(on_both(1, 5, [(0, 4)], [], ("mleans", 0, 4, 1), ("mleans", 4, 0, 1)), [[0], [-2]])
        self.assertEqual(on_both(5, 1, [(4, 0)], [], ("mleans", 4, 0, 1), ("mleans", 0, 4, 1)), [[0], [-2]])

    def test_no_such_strip(self):
        self.assertEqual(on_both(2, 3, [], [], ("mpart", 4), ("mpart", 5), ("mpart", MOST)), [[1, 4], [-2], [-2]])


if __name__ == "__main__":
    unittest.main()
