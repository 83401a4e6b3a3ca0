"""begin, and what is refused ahead of it."""

import unittest

from tests.lines import ARGUMENTS, MOST, NAMES, ask, braced, last, tied

ZEROS = {"": (), "s": (0,), "i": (0,), "j": (0,), "ij": (0, 0), "ijd": (0, 0, 0), "ijkl": (0, 0, 0, 0), "mn": (0, 0)}


def plain_call(name, letters):
    if letters == "w":
        return (name, [0, 0, 0])
    return (name,) + ZEROS[letters]


class BeginTest(unittest.TestCase):

    def test_every_size(self):
        for rows in range(0, 8):
            for columns in range(0, 8):
                fits = 1 <= rows <= 5 and 1 <= columns <= 5
                with self.subTest(rows=rows, columns=columns):
                    self.assertEqual(last(("begin", rows, columns)), [0] if fits else [-22])

    def test_large_sizes(self):
        for size in (6, 255, 4294967294, MOST):
            self.assertEqual(last(("begin", size, 1)), [-22])
            self.assertEqual(last(("begin", 1, size)), [-22])
            self.assertEqual(last(("begin", size, size)), [-22])

    def test_begun_wall_is_bare(self):
        answers = ask(("begin", 2, 3), ("all",), ("firm",), ("tfirm",), ("parts",), ("tparts",))
        self.assertEqual(answers, [[0], [0], [0, 4], [0, 5], [5, 0, 1, 2, 3, 4], [5, 0, 1, 2, 3, 4]])

    def test_begin_again_takes_bars_and_ties_away(self):
        calls = braced(2, 2, [(0, 0), (1, 1)]) + [("tie", 0, 0, 0), ("tie", 0, 0, 1), ("begin", 2, 2)]
        calls += [("all",), ("firm",), ("tfirm",), ("brace", 0, 0), ("tie", 0, 0, 0)]
        self.assertEqual(ask(*calls)[6:], [[0], [0, 3], [0, 4], [2], [4]])

    def test_begin_again_with_another_size(self):
        calls = braced(2, 2, [(1, 1)]) + [("begin", 1, 5), ("brace", 1, 1), ("parts",), ("brace", 0, 4)]
        self.assertEqual(ask(*calls)[2:], [[0], [-2], [6, 0, 1, 2, 3, 4, 5], [4]])
        calls = tied(5, 1, [(4, 0, 0)]) + [("begin", 1, 1), ("tie", 4, 0, 0), ("tparts",)]
        self.assertEqual(ask(*calls)[2:], [[0], [-2], [2, 0, 1]])

    def test_refused_begin_leaves_the_wall(self):
        for rows, columns in ((0, 2), (2, 0), (6, 1), (1, 6), (MOST, MOST)):
            calls = braced(2, 3, [(1, 2)]) + [("tie", 0, 1, 1), ("begin", rows, columns)]
            calls += [("all",), ("parts",), ("tparts",), ("reach", 3)]
            with self.subTest(rows=rows, columns=columns):
                self.assertEqual(ask(*calls)[3:], [
                    [-22], [1, 1, 2], [5, 0, 1, 2, 3, 1], [5, 0, 1, 2, 3, 4], [2, 0, 3]])


class NotBegunTest(unittest.TestCase):

    def test_all_calls_are_looked_at(self):
        self.assertEqual(sorted(ARGUMENTS), sorted(NAMES))

    def test_each_call_ahead_of_any_begin(self):
        for name, letters in ARGUMENTS.items():
            if name != "begin":
                with self.subTest(name=name):
                    self.assertEqual(ask(plain_call(name, letters)), [[-11]])

    def test_each_call_behind_a_refused_begin(self):
        for name, letters in ARGUMENTS.items():
            if name != "begin":
                with self.subTest(name=name):
                    self.assertEqual(ask(("begin", 6, 1), plain_call(name, letters)), [[-22], [-11]])

    def test_not_begun_goes_ahead_of_what_is_not_there(self):
        far = {"s": (MOST,), "i": (5,), "j": (MOST,), "ij": (9, MOST), "ijd": (0, 0, 2), "ijkl": (0, 0, 0, MOST)}
        for name, letters in ARGUMENTS.items():
            if letters in far:
                with self.subTest(name=name):
                    self.assertEqual(ask((name,) + far[letters]), [[-11]])
        for name in ("turn", "tturn"):
            self.assertEqual(ask((name, [])), [[-11]])
            self.assertEqual(ask((name, [MOST] * 12)), [[-11]])

    def test_each_call_is_read_to_its_end(self):
        calls = [plain_call(name, letters) for name, letters in ARGUMENTS.items()]
        calls = [call for call in calls if call[0] != "begin"] + [("begin", 1, 1), ("firm",)]
        self.assertEqual(ask(*calls), [[-11]] * 50 + [[0], [0, 1]])

    def test_begun_behind_refusals(self):
        self.assertEqual(
            ask(("brace", 0, 0), ("begin", 0, 0), ("tie", 0, 0, 0), ("begin", 1, 1), ("all",), ("tfirm",)),
            [[-11], [-22], [-11], [0], [0], [0, 2]])


if __name__ == "__main__":
    unittest.main()
