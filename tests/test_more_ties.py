"""Promise 3: which ties are spare, what one more or one less would do, and how few more are needed."""

import unittest

from tests.lines import FAR, MOST, ROUND, both_kinds, on_both, squares
from tests.lines import on_ties as on

CHAIN = ROUND[:3]
# Row 0 and column 0 hang together, row 1 and column 1 do.
PAIRS = both_kinds([(0, 0), (1, 1)])


class SpareTest(unittest.TestCase):

    def test_one_square(self):
        self.assertEqual(on(1, 1, [(0, 0, 0)], ("tspare", 0, 0, 0), ("tspares",)), [[0], [0]])
        self.assertEqual(
            on(1, 1, both_kinds([(0, 0)]), ("tspare", 0, 0, 0), ("tspare", 0, 0, 1), ("tspares",)), [[0], [0], [0]])

    def test_round_has_none(self):
        self.assertEqual(on(2, 2, ROUND, *[("tspare",) + tie for tie in ROUND], ("tspares",)), [[0]] * 5)

    def test_spare_is_what_others_forbid_too(self):
        self.assertEqual(on(2, 2, ROUND + [(0, 1, 0)], ("tspare", 0, 1, 0), ("tspares",)), [[1], [1, 0, 1, 0]])
        self.assertEqual(on(2, 2, CHAIN + [(0, 1, 0)], ("tspare", 0, 1, 0), ("tspares",)), [[1], [1, 0, 1, 0]])

    def test_spare_need_not_be_firm_nor_stiff(self):
        self.assertEqual(on(3, 3, [(0, 1, 0)] + CHAIN, ("tspares",), ("tfirm",)), [[1, 0, 1, 0], [0, 6]])

    def test_each_by_itself_in_order(self):
        ties = both_kinds(squares(2, 2))[::-1]
        wanted = [8] + [number for tie in ties for number in tie]
        self.assertEqual(on(2, 2, ties, ("tspares",)), [wanted])
        ties = both_kinds(squares(5, 5))
        self.assertEqual(on(5, 5, ties, ("tspares",)), [[50] + [number for tie in ties for number in tie]])

    def test_walls_of_one_row_and_of_one_column(self):
        self.assertEqual(on(1, 5, both_kinds(squares(1, 5)), ("tspares",)), [[0]])
        self.assertEqual(on(5, 1, both_kinds(squares(5, 1)), ("tspares",)), [[0]])

    def test_not_there(self):
        self.assertEqual(on(1, 1, [(0, 0, 0)], ("tspare", 0, 0, 1)), [[-6]])
        self.assertEqual(on(2, 2, ROUND, ("tspare", 0, 1, 0), ("tspare", 0, 1, 1)), [[-6], [0]])

    def test_bars_make_no_tie_spare(self):
        self.assertEqual(on_both(1, 1, [(0, 0)], [(0, 0, 0)], ("tspare", 0, 0, 0), ("tspares",)), [[0], [0]])


class WouldTest(unittest.TestCase):

    def test_one_square(self):
        self.assertEqual(on(1, 1, [], ("twould", 0, 0, 0), ("twould", 0, 0, 1)), [[2, 1], [2, 1]])
        self.assertEqual(on(1, 1, [(0, 0, 0)], ("twould", 0, 0, 1), ("twould", 0, 0, 0)), [[1, 1], [-17]])

    def test_what_closes_the_round(self):
        self.assertEqual(on(2, 2, CHAIN, ("twould", 0, 1, 1)), [[1, 4]])

    def test_part_of_the_round(self):
        self.assertEqual(on(2, 2, CHAIN, ("twould", 0, 0, 1), ("twould", 1, 0, 0)), [[3, 1], [3, 1]])

    def test_what_is_forbidden_already(self):
        self.assertEqual(on(2, 2, CHAIN, ("twould", 0, 1, 0)), [[4, 0]])
        self.assertEqual(on(2, 2, ROUND, ("twould", 0, 1, 0)), [[1, 0]])

    def test_more_than_its_own_square(self):
        self.assertEqual(on(2, 2, [(0, 0, 0), (1, 1, 0)], ("twould", 1, 0, 1)), [[4, 2]])
        self.assertEqual(on(2, 2, PAIRS, ("twould", 0, 1, 0)), [[2, 2]])

    def test_ties_nothing(self):
        self.assertEqual(on(2, 2, CHAIN, ("twould", 0, 1, 1), ("ties",), ("tfirm",))[1:], [
            [3, 0, 0, 0, 1, 0, 1, 1, 1, 0], [0, 4]])

    def test_bars_count_for_nothing(self):
        self.assertEqual(on_both(1, 1, [(0, 0)], [], ("twould", 0, 0, 0)), [[2, 1]])


class FallsTest(unittest.TestCase):

    def test_one_square(self):
        self.assertEqual(on(1, 1, both_kinds([(0, 0)]), ("tfalls", 0, 0, 0), ("tfalls", 0, 0, 1)), [[2, 1], [2, 1]])
        self.assertEqual(on(1, 1, [(0, 0, 0)], ("tfalls", 0, 0, 0), ("tfalls", 0, 0, 1)), [[2, 1], [-6]])

    def test_what_opens_the_round(self):
        self.assertEqual(on(2, 2, ROUND, *[("tfalls",) + tie for tie in ROUND]), [[4, 4]] * 4)

    def test_more_than_its_own_square(self):
        self.assertEqual(on(2, 2, CHAIN, *[("tfalls",) + tie for tie in CHAIN]), [[4, 2], [4, 2], [4, 2]])

    def test_spare_ones(self):
        self.assertEqual(on(2, 2, ROUND + [(0, 1, 0)], ("tfalls", 0, 1, 0)), [[1, 0]])
        self.assertEqual(on(5, 5, both_kinds(squares(5, 5)), ("tfalls", 4, 4, 1)), [[1, 0]])

    def test_takes_nothing_away(self):
        self.assertEqual(on(2, 2, ROUND, ("tfalls", 1, 0, 1), ("ties",), ("tfirm",))[1:], [
            [4, 0, 0, 0, 1, 0, 1, 1, 1, 0, 0, 1, 1], [1, 1]])

    def test_bars_count_for_nothing(self):
        self.assertEqual(on_both(1, 1, [(0, 0)], [(0, 0, 0)], ("tfalls", 0, 0, 0)), [[2, 1]])


class PutTest(unittest.TestCase):

    def test_one_square(self):
        self.assertEqual(on(1, 1, [], ("tput",)), [[2, 0, 0, 0, 0, 0, 1]])
        self.assertEqual(on(1, 1, [(0, 0, 0)], ("tput",)), [[1, 0, 0, 1]])
        self.assertEqual(on(1, 1, [(0, 0, 1)], ("tput",)), [[1, 0, 0, 0]])

    def test_none_where_it_is_firm(self):
        self.assertEqual(on(1, 1, both_kinds([(0, 0)]), ("tput",)), [[0]])
        self.assertEqual(on(2, 2, ROUND, ("tput",)), [[0]])
        self.assertEqual(on(3, 3, both_kinds(squares(3, 3)), ("tput",)), [[0]])

    def test_round(self):
        self.assertEqual(on(2, 2, [], ("tput",)), [[4, 0, 0, 0, 0, 1, 1, 1, 0, 1, 1, 1, 0]])
        self.assertEqual(on(2, 2, [(0, 0, 1)], ("tput",)), [[3, 0, 1, 0, 1, 0, 0, 1, 1, 1]])
        self.assertEqual(on(2, 2, CHAIN, ("tput",)), [[1, 0, 1, 1]])
        self.assertEqual(on(2, 2, ROUND[1:], ("tput",)), [[1, 0, 0, 0]])

    def test_of_sets_of_as_few_the_first(self):
        self.assertEqual(on(2, 2, PAIRS, ("tput",)), [[2, 0, 1, 0, 0, 1, 1]])
        self.assertEqual(on(2, 2, PAIRS + [(0, 1, 0)], ("tput",)), [[1, 0, 1, 1]])
        self.assertEqual(on(2, 2, PAIRS + [(0, 1, 1)], ("tput",)), [[1, 0, 1, 0]])
        self.assertEqual(on(2, 3, both_kinds([(0, 2)]), ("tput",)), [[4, 0, 0, 0, 0, 1, 1, 1, 0, 1, 1, 1, 0]])

    def test_few_go_ahead_of_first(self):
        # The first square lacks a tie, too, but with it more would be needed.
        chain = [(0, 0, 0), (1, 0, 1), (1, 1, 0), (2, 1, 1), (2, 2, 0)]
        self.assertEqual(on(3, 3, chain, ("tput",)), [[1, 0, 2, 1]])

    def test_nine_squares(self):
        self.assertEqual(on(3, 3, [(0, 0, 0), (1, 0, 1)], ("tput",)), [[4, 0, 1, 1, 1, 2, 0, 2, 1, 0, 2, 2, 1]])
        self.assertEqual(on(3, 3, [], ("tput",)), [[-33]])

    def test_walls_of_one_row_and_of_one_column(self):
        self.assertEqual(on(1, 2, [], ("tput",)), [[4, 0, 0, 0, 0, 0, 1, 0, 1, 0, 0, 1, 1]])
        self.assertEqual(on(1, 5, both_kinds(squares(1, 3)), ("tput",)), [[4, 0, 3, 0, 0, 3, 1, 0, 4, 0, 0, 4, 1]])
        self.assertEqual(on(5, 1, both_kinds(squares(3, 1)), ("tput",)), [[4, 3, 0, 0, 3, 0, 1, 4, 0, 0, 4, 0, 1]])

    def test_four_more_are_not_enough(self):
        self.assertEqual(on(1, 3, [], ("tput",)), [[-33]])
        self.assertEqual(on(1, 3, [(0, 1, 1)], ("tput",)), [[-33]])
        self.assertEqual(on(1, 3, [(0, 1, 1), (0, 2, 0)], ("tput",)), [[4, 0, 0, 0, 0, 0, 1, 0, 1, 0, 0, 2, 1]])
        self.assertEqual(on(5, 1, both_kinds(squares(3, 1))[1:], ("tput",)), [[-33]])
        self.assertEqual(on(2, 4, [], ("tput",)), [[-33]])

    def test_more_than_nine_squares(self):
        for rows, columns in ((2, 5), (5, 2), (3, 4), (4, 3), (5, 5)):
            with self.subTest(rows=rows, columns=columns):
                places = both_kinds(squares(rows, columns))
                self.assertEqual(on(rows, columns, [], ("tput",)), [[-28]])
                self.assertEqual(on(rows, columns, places, ("tput",)), [[-28]])
                self.assertEqual(on(rows, columns, places[:-1], ("tput",)), [[-28]])

    def test_ties_nothing(self):
        self.assertEqual(on(2, 2, CHAIN, ("tput",), ("ties",), ("tfirm",), ("tput",))[1:], [
            [3, 0, 0, 0, 1, 0, 1, 1, 1, 0], [0, 4], [1, 0, 1, 1]])

    def test_what_it_tells_makes_it_firm(self):
        for ties in ([], CHAIN, PAIRS, [(0, 0, 1)], [(1, 1, 1), (0, 1, 0)]):
            found, = on(2, 2, ties, ("tput",))
            more = [tuple(found[at:at + 3]) for at in range(1, len(found), 3)]
            self.assertEqual(on(2, 2, ties + more, ("tfirm",), ("tput",)), [[1, 1], [0]])

    def test_bars_count_for_nothing(self):
        self.assertEqual(on_both(1, 1, [(0, 0)], [], ("tput",)), [[2, 0, 0, 0, 0, 0, 1]])


class NoneSuchTest(unittest.TestCase):

    def test_no_such_square_or_kind(self):
        for name in ("tspare", "twould", "tfalls"):
            for values in FAR:
                with self.subTest(name=name, values=values):
                    self.assertEqual(on(2, 3, [(0, 0, 0)], (name,) + values, ("ties",)), [[-2], [1, 0, 0, 0]])

    def test_rows_and_columns_are_not_mistaken(self):
        for name in ("tspare", "twould", "tfalls"):
            for rows, columns, place, other in ((1, 5, (0, 4, 1), (4, 0, 1)), (5, 1, (4, 0, 1), (0, 4, 1))):
                ties = [] if name == "twould" else [place]
                wanted = [0] if name == "tspare" else [6, 1]
                self.assertEqual(on(rows, columns, ties, (name,) + place, (name,) + other), [wanted, [-2]])

    def test_large_numbers(self):
        self.assertEqual(on(5, 5, [], ("twould", 4, 4, 1), ("twould", 5, 4, 1), ("twould", 4, MOST, 1)), [
            [10, 1], [-2], [-2]])


if __name__ == "__main__":
    unittest.main()
