"""Promise 3: ties told, taken back and flipped, and where one comes by them."""

import unittest

from tests.lines import FAR, MOST, ROUND, ask, both_kinds, on_both, squares, tied
from tests.lines import on_ties as on


class TellingTest(unittest.TestCase):

    def test_tie_answers_parts(self):
        self.assertEqual(ask(*tied(1, 1, [(0, 0, 0), (0, 0, 1)])), [[0], [2], [1]])
        self.assertEqual(ask(*tied(2, 2, ROUND)), [[0], [4], [4], [4], [1]])

    def test_tie_twice(self):
        self.assertEqual(on(1, 1, [(0, 0, 0)], ("tie", 0, 0, 0), ("tie", 0, 0, 1)), [[-17], [1]])
        self.assertEqual(on(1, 1, [(0, 0, 1)], ("tie", 0, 0, 1), ("tie", 0, 0, 0)), [[-17], [1]])

    def test_untie_answers_parts(self):
        self.assertEqual(on(2, 2, ROUND, ("untie", 1, 1, 0), ("untie", 0, 0, 0)), [[4], [4]])
        self.assertEqual(on(2, 2, both_kinds(squares(2, 2)), ("untie", 0, 0, 0), ("tfirm",)), [[1], [1, 1]])

    def test_untie_what_is_not_there(self):
        self.assertEqual(on(1, 1, [], ("untie", 0, 0, 0)), [[-6]])
        self.assertEqual(on(1, 1, [(0, 0, 0)], ("untie", 0, 0, 1), ("untie", 0, 0, 0), ("untie", 0, 0, 0)), [
            [-6], [2], [-6]])

    def test_untied_is_gone_alone(self):
        self.assertEqual(
            on(1, 2, both_kinds(squares(1, 2)), ("untie", 0, 0, 1), ("tparts",), ("tie", 0, 0, 1)),
            [[2], [3, 0, 1, 0], [1]])


class FlipTest(unittest.TestCase):

    def test_flip_answers_parts(self):
        self.assertEqual(on(1, 1, [(0, 0, 0)], ("flip", 0, 0, 0), ("flip", 0, 0, 1)), [[2], [2]])
        nearly = ROUND[:3] + [(0, 1, 0)]
        self.assertEqual(on(2, 2, nearly, ("flip", 0, 1, 0), ("tfirm",)), [[1], [1, 1]])
        self.assertEqual(on(2, 2, ROUND, ("flip", 1, 1, 0), ("tfirm",)), [[4], [0, 4]])

    def test_flipped_is_of_the_other_kind(self):
        self.assertEqual(on(1, 1, [(0, 0, 0)], ("flip", 0, 0, 0), ("ties",), ("reach", 0), ("reach", 1)), [
            [2], [1, 0, 0, 1], [1, 0], [2, 0, 1]])
        self.assertEqual(on(1, 1, [(0, 0, 1)], ("flip", 0, 0, 1), ("ties",), ("reach", 0), ("reach", 1)), [
            [2], [1, 0, 0, 0], [2, 0, 1], [1, 1]])

    def test_flipped_keeps_its_place(self):
        ties = [(1, 1, 0), (0, 0, 0), (0, 1, 1)]
        for tie, wanted in (
                ((1, 1, 0), [3, 1, 1, 1, 0, 0, 0, 0, 1, 1]),
                ((0, 0, 0), [3, 1, 1, 0, 0, 0, 1, 0, 1, 1]),
                ((0, 1, 1), [3, 1, 1, 0, 0, 0, 0, 0, 1, 0])):
            with self.subTest(tie=tie):
                self.assertEqual(on(2, 2, ties, ("flip",) + tie, ("ties",))[1], wanted)

    def test_flipped_twice_is_as_it_was(self):
        self.assertEqual(
            on(2, 2, ROUND, ("flip", 1, 0, 1), ("flip", 1, 0, 0), ("ties",)),
            [[4], [1], [4, 0, 0, 0, 1, 0, 1, 1, 1, 0, 0, 1, 1]])

    def test_flip_what_is_not_there(self):
        self.assertEqual(
            on(2, 2, [(0, 0, 0)], ("flip", 0, 0, 1), ("flip", 0, 1, 0), ("flip", 1, 0, 1), ("ties",)),
            [[-6], [-6], [-6], [1, 0, 0, 0]])

    def test_flip_where_the_other_kind_is_too(self):
        self.assertEqual(
            on(1, 1, [(0, 0, 1), (0, 0, 0)], ("flip", 0, 0, 0), ("flip", 0, 0, 1), ("ties",)),
            [[-17], [-17], [2, 0, 0, 1, 0, 0, 0]])


class InOrderTest(unittest.TestCase):

    def test_ties_in_the_order_of_telling(self):
        self.assertEqual(on(2, 2, [], ("ties",)), [[0]])
        self.assertEqual(on(2, 2, [(1, 1, 1), (0, 1, 0), (1, 1, 0)], ("ties",)), [[3, 1, 1, 1, 0, 1, 0, 1, 1, 0]])

    def test_what_is_untied_and_tied_again_comes_last(self):
        self.assertEqual(
            on(2, 2, [(1, 1, 1), (0, 1, 0)], ("untie", 1, 1, 1), ("ties",), ("tie", 1, 1, 1), ("ties",)),
            [[4], [1, 0, 1, 0], [4], [2, 0, 1, 0, 1, 1, 1]])

    def test_ties_of_many_sizes(self):
        for rows, columns in ((1, 1), (1, 5), (5, 1), (3, 3), (2, 5), (5, 5)):
            ties = both_kinds(squares(rows, columns))[::-1]
            wanted = [len(ties)] + [number for tie in ties for number in tie]
            self.assertEqual(on(rows, columns, ties, ("ties",)), [wanted])

    def test_bars_are_no_ties(self):
        self.assertEqual(on_both(2, 2, [(0, 0)], [(1, 0, 1)], ("ties",)), [[1, 1, 0, 1]])


class ComingTest(unittest.TestCase):

    def test_kind_tells_the_way(self):
        self.assertEqual(on(1, 1, [(0, 0, 0)], ("reach", 0), ("reach", 1)), [[2, 0, 1], [1, 1]])
        self.assertEqual(on(1, 1, [(0, 0, 1)], ("reach", 0), ("reach", 1)), [[1, 0], [2, 0, 1]])

    def test_reach_goes_on_and_on(self):
        chain = [(0, 0, 0), (1, 0, 1), (1, 1, 0), (2, 1, 1), (2, 2, 0)]
        for order in (chain, chain[::-1], chain[::2] + chain[1::2]):
            self.assertEqual(
                on(3, 3, order, ("reach", 0), ("reach", 3), ("reach", 2), ("reach", 5)),
                [[6, 0, 1, 2, 3, 4, 5], [5, 1, 2, 3, 4, 5], [2, 2, 5], [1, 5]])

    def test_tfirm(self):
        self.assertEqual(on(1, 1, [], ("tfirm",)), [[0, 2]])
        self.assertEqual(on(1, 1, [(0, 0, 0)], ("tfirm",)), [[0, 2]])
        self.assertEqual(on(1, 1, [(0, 0, 0), (0, 0, 1)], ("tfirm",)), [[1, 1]])
        self.assertEqual(on(2, 2, ROUND, ("tfirm",)), [[1, 1]])
        self.assertEqual(on(5, 5, [], ("tfirm",)), [[0, 10]])
        self.assertEqual(on(5, 5, both_kinds(squares(5, 5)), ("tfirm",)), [[1, 1]])
        self.assertEqual(on(5, 5, [(row, column, 0) for row, column in squares(5, 5)], ("tfirm",)), [[0, 10]])

    def test_walls_of_one_row_and_of_one_column(self):
        self.assertEqual(on(1, 5, both_kinds(squares(1, 5)), ("tfirm",)), [[1, 1]])
        self.assertEqual(on(5, 1, both_kinds(squares(5, 1)), ("tfirm",)), [[1, 1]])
        self.assertEqual(on(1, 5, both_kinds([(0, 3)]), ("tparts",)), [[6, 0, 1, 2, 3, 0, 5]])
        self.assertEqual(on(5, 1, both_kinds([(3, 0)]), ("tparts",)), [[6, 0, 1, 2, 3, 4, 3]])

    def test_tpart_and_tparts(self):
        ties = both_kinds([(2, 2), (1, 2)]) + [(0, 0, 0)]
        self.assertEqual(
            on(3, 3, ties, ("tparts",), ("tpart", 5), ("tpart", 1), ("tpart", 0), ("tpart", 3), ("tpart", 4)),
            [[6, 0, 1, 1, 3, 4, 1], [3, 1, 2, 5], [3, 1, 2, 5], [1, 0], [1, 3], [1, 4]])

    def test_coming_one_way_is_not_hanging_together(self):
        self.assertEqual(on(2, 2, ROUND[:3], ("reach", 0), ("tpart", 0), ("tparts",)), [
            [4, 0, 1, 2, 3], [1, 0], [4, 0, 1, 2, 3]])


class BarsAndTiesTest(unittest.TestCase):

    def test_ties_where_bars_are(self):
        calls = [("brace", 0, 0), ("firm",), ("tfirm",), ("reach", 0), ("free", 0, 0), ("tfirm",), ("firm",)]
        self.assertEqual(on(1, 1, [], *calls), [[0], [1, 0], [0, 2], [1, 0], [1], [0, 2], [0, 1]])
        calls = [("brace", 0, 0), ("tfirm",), ("free", 0, 0), ("tfirm",), ("firm",), ("all",), ("spares",)]
        self.assertEqual(
            on(1, 1, [(0, 0, 0), (0, 0, 1)], *calls), [[0], [1, 1], [1], [1, 1], [0, 1], [0], [0]])

    def test_ties_count_for_nothing_by_bars(self):
        calls = [("stills",), ("put",), ("part", 0), ("turn", [0, 1]), ("would", 0, 0), ("free", 0, 0), ("least",)]
        self.assertEqual(
            on(1, 1, [(0, 0, 0), (0, 0, 1)], *calls), [[0, 0], [1, 0, 0], [1, 0], [1, 1], [0, 1], [-6], [1, 0]])

    def test_bars_count_for_nothing_by_ties(self):
        calls = [("brace", row, column) for row, column in squares(2, 2)]
        calls += [("tparts",), ("tpart", 1), ("reach", 1), ("untie", 0, 0, 0), ("tie", 0, 0, 0)]
        self.assertEqual(on(2, 2, [], *calls)[4:], [[4, 0, 1, 2, 3], [1, 1], [1, 1], [-6], [4]])


class NoneSuchTest(unittest.TestCase):

    def test_no_such_square_or_kind(self):
        for name in ("tie", "untie", "flip"):
            for values in FAR:
                with self.subTest(name=name, values=values):
                    self.assertEqual(on(2, 3, [(0, 0, 0)], (name,) + values, ("ties",), ("reach", 0)), [
                        [-2], [1, 0, 0, 0], [2, 0, 2]])

    def test_rows_and_columns_are_not_mistaken(self):
        self.assertEqual(on(1, 5, [], ("tie", 0, 4, 0), ("tie", 4, 0, 0)), [[6], [-2]])
        self.assertEqual(on(5, 1, [], ("tie", 4, 0, 0), ("tie", 0, 4, 0)), [[6], [-2]])
        self.assertEqual(on(1, 5, [(0, 4, 0)], ("flip", 0, 4, 0), ("flip", 4, 0, 0)), [[6], [-2]])
        self.assertEqual(on(5, 1, [(4, 0, 0)], ("flip", 4, 0, 0), ("flip", 0, 4, 0)), [[6], [-2]])

    def test_no_such_strip(self):
        for name in ("reach", "tpart"):
            self.assertEqual(on(2, 3, [], (name, 4), (name, 5), (name, MOST)), [[1, 4], [-2], [-2]])


if __name__ == "__main__":
    unittest.main()
