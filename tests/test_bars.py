"""Promise 2: what is told by bars alone."""

import unittest

from tests.lines import MOST, RING, ask, braced, squares
from tests.lines import on_bars as on

ALL_OF_5_BY_5 = squares(5, 5)


class TellingTest(unittest.TestCase):

    def test_brace_answers_ways_to_shear(self):
        self.assertEqual(ask(*braced(2, 2, RING)), [[0], [2], [1], [0], [0]])
        self.assertEqual(ask(*braced(1, 1, [(0, 0)])), [[0], [0]])
        self.assertEqual(ask(*braced(2, 3, [(0, 2), (1, 0), (1, 2)])), [[0], [3], [2], [1]])

    def test_brace_twice(self):
        self.assertEqual(on(2, 2, [(0, 1)], ("brace", 0, 1), ("all",)), [[-17], [1, 0, 1]])

    def test_free_answers_ways_to_shear(self):
        self.assertEqual(
            on(2, 2, RING, ("free", 0, 0), ("free", 1, 1), ("free", 0, 1), ("free", 1, 0)), [[0], [1], [2], [3]])

    def test_free_what_is_not_braced(self):
        self.assertEqual(on(2, 2, [], ("free", 0, 1)), [[-6]])
        self.assertEqual(on(2, 2, [(0, 1)], ("free", 1, 0), ("free", 0, 1), ("free", 0, 1)), [[-6], [3], [-6]])

    def test_all_in_the_order_of_telling(self):
        self.assertEqual(on(2, 2, [], ("all",)), [[0]])
        self.assertEqual(on(2, 3, [(1, 2), (0, 1), (1, 0)], ("all",)), [[3, 1, 2, 0, 1, 1, 0]])

    def test_what_is_freed_and_braced_again_comes_last(self):
        self.assertEqual(
            on(2, 3, [(1, 2), (0, 1), (1, 0)], ("free", 1, 2), ("all",), ("brace", 1, 2), ("all",)),
            [[2], [2, 0, 1, 1, 0], [1], [3, 0, 1, 1, 0, 1, 2]])

    def test_row_and_column_rise(self):
        bars = [(1, 4), (1, 0), (0, 4), (1, 2), (2, 4)]
        self.assertEqual(on(3, 5, bars, ("row", 0), ("row", 1), ("row", 2)), [[1, 4], [3, 0, 2, 4], [1, 4]])
        self.assertEqual(
            on(3, 5, bars, ("column", 0), ("column", 1), ("column", 4)), [[1, 1], [0], [3, 0, 1, 2]])

    def test_row_and_column_without_bars(self):
        self.assertEqual(on(1, 1, [], ("row", 0), ("column", 0)), [[0], [0]])
        self.assertEqual(on(5, 5, ALL_OF_5_BY_5, ("row", 4), ("column", 4)), [[5, 0, 1, 2, 3, 4]] * 2)


class HangingTest(unittest.TestCase):

    def test_firm(self):
        self.assertEqual(on(1, 1, [], ("firm",)), [[0, 1]])
        self.assertEqual(on(1, 1, [(0, 0)], ("firm",)), [[1, 0]])
        self.assertEqual(on(2, 2, RING, ("firm",)), [[1, 0]])
        self.assertEqual(on(2, 2, RING[:3], ("firm",)), [[1, 0]])
        self.assertEqual(on(2, 2, RING[:2], ("firm",)), [[0, 1]])
        self.assertEqual(on(5, 5, [], ("firm",)), [[0, 9]])

    def test_many_bars_need_not_be_firm(self):
        self.assertEqual(on(5, 5, squares(4, 5), ("firm",)), [[0, 1]])

    def test_walls_of_one_row_and_of_one_column(self):
        self.assertEqual(on(1, 5, squares(1, 5), ("firm",), ("parts",)), [[1, 0], [6, 0, 0, 0, 0, 0, 0]])
        self.assertEqual(on(5, 1, squares(5, 1), ("firm",), ("parts",)), [[1, 0], [6, 0, 0, 0, 0, 0, 0]])
        self.assertEqual(on(1, 5, [(0, 1), (0, 3)], ("firm",), ("parts",)), [[0, 3], [6, 0, 1, 0, 3, 0, 5]])
        self.assertEqual(on(5, 1, [(1, 0), (3, 0)], ("firm",), ("parts",)), [[0, 3], [6, 0, 1, 2, 1, 4, 1]])

    def test_parts(self):
        self.assertEqual(on(3, 3, [(2, 2), (1, 2), (0, 0)], ("parts",)), [[6, 0, 1, 1, 0, 4, 1]])
        self.assertEqual(on(2, 2, [], ("parts",)), [[4, 0, 1, 2, 3]])
        self.assertEqual(on(5, 5, ALL_OF_5_BY_5, ("parts",)), [[10] + [0] * 10])

    def test_part(self):
        bars = [(2, 2), (1, 2), (0, 0)]
        self.assertEqual(
            on(3, 3, bars, ("part", 0), ("part", 5), ("part", 1), ("part", 4)),
            [[2, 0, 3], [3, 1, 2, 5], [3, 1, 2, 5], [1, 4]])

    def test_still(self):
        self.assertEqual(
            on(2, 2, RING[:3], ("still", 1, 0), ("still", 0, 0), ("free", 1, 1), ("still", 1, 0), ("still", 0, 1)),
            [[1], [1], [1], [0], [1]])

    def test_stills_row_by_row(self):
        self.assertEqual(on(2, 3, [], ("stills",)), [[0] * 7])
        self.assertEqual(on(2, 3, [(0, 2), (1, 0)], ("stills",)), [[2, 0, 0, 1, 1, 0, 0]])
        self.assertEqual(on(2, 3, [(0, 2), (1, 0), (1, 2)], ("stills",)), [[4, 1, 0, 1, 1, 0, 1]])
        self.assertEqual(on(1, 1, [(0, 0)], ("stills",)), [[1, 1]])

    def test_alike(self):
        self.assertEqual(
            on(2, 3, [(0, 0), (1, 0)], ("alike", 0, 0, 1, 0), ("alike", 0, 0, 1, 1), ("alike", 1, 2, 0, 2)),
            [[1], [0], [1]])
        self.assertEqual(
            on(2, 3, [(0, 0), (0, 1)], ("alike", 0, 0, 0, 1), ("alike", 0, 0, 1, 1), ("alike", 1, 1, 1, 0)),
            [[1], [0], [1]])
        # Rows that hang together and columns that do need not hang together with one another.
        self.assertEqual(on(1, 1, [], ("alike", 0, 0, 0, 0)), [[1]])

    def test_alike_pairs_rows_with_rows(self):
        self.assertEqual(on(2, 2, [(0, 0), (1, 1)], ("alike", 0, 0, 1, 1), ("alike", 0, 1, 0, 1)), [[0], [1]])


class TurnTest(unittest.TestCase):

    def test_turn(self):
        self.assertEqual(
            on(2, 2, [(0, 0)], ("turn", [1, 2, 1, 2]), ("turn", [1, 1, 1, 1]), ("turn", [1, 2, 2, 1])),
            [[1, 2], [1, 0], [0, 2]])

    def test_turn_counts_all_squares(self):
        self.assertEqual(on(2, 3, [], ("turn", [0, 0, 1, 2, 3]), ("turn", [5, 6, 5, 6, 7])), [[1, 6], [1, 4]])
        self.assertEqual(on(2, 3, [(0, 0), (1, 2)], ("turn", [5, 6, 5, 7, 8])), [[0, 5]])

    def test_turn_by_large_numbers(self):
        self.assertEqual(
            on(1, 1, [(0, 0)], ("turn", [MOST, MOST]), ("turn", [MOST, 0]), ("turn", [0, MOST - 1])),
            [[1, 0], [0, 1], [0, 1]])

    def test_turn_of_the_wrong_length(self):
        for length in range(13):
            answer = on(2, 2, [], ("turn", [0] * length), ("firm",))
            self.assertEqual(answer, [[1, 0] if length == 4 else [-22], [0, 3]])
        self.assertEqual(on(5, 5, [], ("turn", [MOST] * 10), ("turn", [0] * 12)), [[1, 0], [-22]])

    def test_rows_come_first_in_a_way(self):
        self.assertEqual(on(1, 2, [(0, 0)], ("turn", [1, 1, 0]), ("turn", [0, 1, 0])), [[1, 1], [0, 1]])
        self.assertEqual(on(2, 1, [(0, 0)], ("turn", [1, 0, 1]), ("turn", [0, 1, 1])), [[1, 1], [0, 1]])


class SpareTest(unittest.TestCase):

    def test_ring_of_four(self):
        for row, column in RING:
            self.assertEqual(on(2, 2, RING, ("spare", row, column)), [[1]])
        self.assertEqual(on(2, 2, RING, ("spares",)), [[4, 0, 0, 0, 1, 1, 1, 1, 0]])

    def test_row_of_bars_all_needed(self):
        self.assertEqual(on(1, 5, squares(1, 5), ("spares",), ("spare", 0, 2)), [[0], [0]])
        self.assertEqual(on(5, 1, squares(5, 1), ("spares",), ("spare", 2, 0)), [[0], [0]])

    def test_ring_and_a_bar_beside_it(self):
        bars = [(2, 2)] + RING[::-1]
        self.assertEqual(on(3, 3, bars, ("spares",), ("spare", 2, 2)), [[4, 1, 0, 1, 1, 0, 1, 0, 0], [0]])

    def test_no_bars(self):
        self.assertEqual(on(2, 2, [], ("spares",), ("spare", 0, 0)), [[0], [-6]])

    def test_falls(self):
        self.assertEqual(on(2, 2, RING, ("falls", 0, 0)), [[0, 0]])
        self.assertEqual(on(2, 2, RING[:3], ("falls", 0, 0)), [[2, 1]])
        self.assertEqual(on(2, 2, RING[:3], ("falls", 0, 1)), [[2, 1]])
        self.assertEqual(on(1, 1, [(0, 0)], ("falls", 0, 0)), [[1, 1]])
        self.assertEqual(on(2, 2, RING[:3], ("falls", 1, 0)), [[-6]])

    def test_falls_takes_nothing_away(self):
        self.assertEqual(on(2, 2, RING[:3], ("falls", 0, 1), ("all",)), [[2, 1], [3, 0, 0, 0, 1, 1, 1]])

    def test_thin_goes_from_the_last_told(self):
        self.assertEqual(on(2, 2, RING, ("thin",)), [[3, 0, 0, 0, 1, 1, 1]])
        self.assertEqual(on(2, 2, RING[::-1], ("thin",)), [[3, 1, 0, 1, 1, 0, 1]])
        self.assertEqual(
            on(2, 3, [(1, 2), (1, 1), (1, 0), (0, 2), (0, 1), (0, 0)], ("thin",)), [[4, 1, 2, 1, 1, 1, 0, 0, 2]])

    def test_thin_takes_nothing_away(self):
        self.assertEqual(on(2, 2, RING, ("thin",), ("all",), ("spares",))[1:], [
            [4, 0, 0, 0, 1, 1, 1, 1, 0], [4, 0, 0, 0, 1, 1, 1, 1, 0]])

    def test_thin_where_none_is_spare(self):
        self.assertEqual(on(2, 2, [], ("thin",)), [[0]])
        self.assertEqual(on(1, 3, [(0, 2), (0, 0)], ("thin",)), [[2, 0, 2, 0, 0]])

    def test_thin_of_all(self):
        found = on(5, 5, ALL_OF_5_BY_5, ("thin",))[0]
        self.assertEqual(found, [9, 0, 0, 0, 1, 0, 2, 0, 3, 0, 4, 1, 0, 2, 0, 3, 0, 4, 0])


class MoreTest(unittest.TestCase):

    def test_least(self):
        self.assertEqual(on(1, 1, [], ("least",)), [[1, 0]])
        self.assertEqual(on(2, 2, RING, ("least",)), [[3, 1]])
        self.assertEqual(on(3, 3, RING, ("least",)), [[5, 1]])
        self.assertEqual(on(3, 3, [(0, 0), (2, 2)], ("least",)), [[5, 0]])
        self.assertEqual(on(5, 5, ALL_OF_5_BY_5, ("least",)), [[9, 16]])
        self.assertEqual(on(1, 5, squares(1, 5), ("least",)), [[5, 0]])

    def test_put(self):
        self.assertEqual(on(1, 1, [], ("put",)), [[1, 0, 0]])
        self.assertEqual(on(2, 2, [], ("put",)), [[3, 0, 0, 0, 1, 1, 0]])
        self.assertEqual(on(2, 2, [(1, 1)], ("put",)), [[2, 0, 0, 0, 1]])
        self.assertEqual(on(2, 2, [(0, 1), (1, 0)], ("put",)), [[1, 0, 0]])
        self.assertEqual(on(2, 3, [(0, 0), (1, 0)], ("put",)), [[2, 0, 1, 0, 2]])

    def test_put_where_none_is_needed(self):
        self.assertEqual(on(2, 2, RING, ("put",)), [[0]])
        self.assertEqual(on(2, 2, RING[:3], ("put",)), [[0]])

    def test_put_braces_nothing(self):
        self.assertEqual(on(2, 2, [(1, 1)], ("put",), ("all",), ("firm",))[1:], [[1, 1, 1], [0, 2]])

    def test_would(self):
        self.assertEqual(on(2, 2, [], ("would", 0, 0)), [[2, 1]])
        self.assertEqual(on(2, 2, [(0, 0), (1, 1)], ("would", 0, 1), ("would", 1, 0)), [[0, 2], [0, 2]])
        self.assertEqual(on(2, 2, RING[:3], ("would", 1, 0)), [[0, 0]])
        self.assertEqual(on(2, 2, RING[:3], ("would", 0, 1)), [[-17]])

    def test_would_braces_nothing(self):
        self.assertEqual(on(2, 2, [(0, 0)], ("would", 1, 1), ("all",)), [[1, 1], [1, 0, 0]])


class NoneSuchTest(unittest.TestCase):

    def test_no_such_square(self):
        for name in ("brace", "free", "still", "spare", "falls", "would"):
            for row, column in ((2, 0), (0, 3), (2, 3), (MOST, 0), (0, MOST), (MOST, MOST)):
                with self.subTest(name=name, row=row, column=column):
                    self.assertEqual(on(2, 3, [(0, 0)], (name, row, column), ("all",)), [[-2], [1, 0, 0]])

    def test_rows_and_columns_are_not_mistaken(self):
        self.assertEqual(on(1, 5, [], ("brace", 0, 4), ("brace", 4, 0)), [[4], [-2]])
        self.assertEqual(on(5, 1, [], ("brace", 4, 0), ("brace", 0, 4)), [[4], [-2]])
        self.assertEqual(on(5, 5, [], ("brace", 4, 4), ("brace", 4, 5), ("brace", 5, 4)), [[8], [-2], [-2]])

    def test_no_such_square_of_two(self):
        for far in ((2, 0, 0, 0), (0, 3, 0, 0), (0, 0, 2, 0), (0, 0, 0, 3), (MOST, MOST, MOST, MOST)):
            with self.subTest(far=far):
                self.assertEqual(on(2, 3, [], ("alike",) + far), [[-2]])
        self.assertEqual(on(2, 3, [], ("alike", 1, 2, 1, 2)), [[1]])

    def test_rows_and_columns_of_two_squares_are_not_mistaken(self):
        self.assertEqual(on(5, 5, [], ("alike", 4, 4, 4, 4), ("alike", 4, 4, 5, 4)), [[1], [-2]])
        self.assertEqual(
            on(5, 1, [], ("alike", 4, 0, 4, 0), ("alike", 4, 0, 4, 1), ("alike", 0, 1, 0, 0)), [[1], [-2], [-2]])
        self.assertEqual(
            on(1, 5, [], ("alike", 0, 4, 0, 4), ("alike", 0, 4, 1, 4), ("alike", 1, 0, 0, 0)), [[1], [-2], [-2]])

    def test_no_such_strip(self):
        self.assertEqual(on(2, 3, [], ("part", 4), ("part", 5), ("part", MOST)), [[1, 4], [-2], [-2]])

    def test_no_such_row_or_column(self):
        self.assertEqual(on(2, 3, [], ("row", 1), ("row", 2), ("row", MOST)), [[0], [-2], [-2]])
        self.assertEqual(on(2, 3, [], ("column", 2), ("column", 3), ("column", MOST)), [[0], [-2], [-2]])


if __name__ == "__main__":
    unittest.main()
