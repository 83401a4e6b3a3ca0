"""The form of what is handed in and given back, and what holds of all calls."""

import contextlib
import io
import unittest

from firmframe.walls import answers
from tests.lines import MOST, QUESTIONS, RING, ROUND, ask, behind, both_kinds, braced, squares, standing, told

WALL = standing(2, 2, [(0, 0), (0, 1)], [(0, 0, 1)])
# Every call that changes the wall, some of them refused; behind these it is as it was.
CHANGES = [
    ("both",), ("single",), ("clear",), ("tie", 0, 0, 1), ("flip", 0, 0, 1), ("untie", 0, 0, 0), ("tie", 0, 0, 1),
    ("lean", 0, 0, 1), ("brace", 1, 0), ("single",), ("brace", 1, 1), ("single",), ("free", 1, 0), ("free", 1, 1),
    ("begin", 2, 2), ("brace", 0, 0), ("brace", 0, 1), ("tie", 0, 0, 1),
]
EVERYTHING = told(WALL + QUESTIONS + CHANGES + QUESTIONS + [("tturn", [1, 2])])


class FormTest(unittest.TestCase):

    def test_plain_numbers_in_and_out(self):
        self.assertEqual(answers([0, 2, 1, 1, 1, 0, 3, 17]), [1, 0, 1, 1, 2, 0, 1, 3, 1, 1, 0])

    def test_a_way_has_its_count_before_it(self):
        self.assertEqual(answers([0, 1, 1, 13, 2, 7, 7, 3]), [1, 0, 2, 1, 0, 2, 0, 1])
        self.assertEqual(answers([0, 1, 1, 13, 0, 3]), [1, 0, 1, -22, 2, 0, 1])
        self.assertEqual(answers([0, 1, 1, 13, 12] + [3] * 12 + [3]), [1, 0, 1, -22, 2, 0, 1])
        self.assertEqual(answers([0, 1, 1, 30, 2, 7, 7, 22]), [1, 0, 2, 1, 0, 2, 0, 2])
        self.assertEqual(answers([0, 1, 1, 30, 0, 22]), [1, 0, 1, -22, 2, 0, 2])
        self.assertEqual(answers([0, 1, 1, 30, 12] + [22] * 12 + [22]), [1, 0, 1, -22, 2, 0, 2])

    def test_a_refusal_is_its_number_alone(self):
        self.assertEqual(answers([3]), [1, -11])
        self.assertEqual(answers([0, 6, 6, 3]), [1, -22, 1, -11])
        self.assertEqual(answers([0, 1, 1, 5, 2, 14, 0, 0]), [1, 0, 1, -2, 1, -6])

    def test_numbers_of_the_calls(self):
        calls = [0, 1, 1, 1, 0, 0, 2, 0, 0, 3, 4, 5, 0, 6, 0, 0, 7, 8, 0, 0, 0, 0, 9, 0, 0, 10, 11, 12, 13, 2, 5, 6]
        calls += [14, 0, 0, 15, 0, 0, 16, 17, 18, 0, 19, 0, 20, 0, 0, 1, 21, 0, 0, 0, 22, 23, 1, 24, 1, 25]
        self.assertEqual(answers(calls), [
            1, 0, 1, 0, 1, 1, 2, 0, 1, 3, 2, 0, 1, 2, 1, 0, 1, 0, 2, 0, 0, 1, 1, 1, -6, 1, 0, 3, 1, 0, 0, 1, 0,
            2, 1, 1, 1, -6, 2, 0, 1, 2, 1, 0, 1, 0, 1, 0, 1, 0, 1, 2, 1, -6, 2, 0, 2, 3, 2, 0, 1, 2, 1, 1, 3, 2, 0, 1])

    def test_numbers_of_the_calls_on_ties(self):
        calls = [0, 1, 1, 20, 0, 0, 1, 26, 27, 0, 0, 0, 28, 29, 0, 0, 0, 30, 2, 5, 6, 31, 0, 0, 1, 32, 33, 34, 0, 0, 0]
        calls += [35, 0, 0, 1, 36, 0, 0, 37, 0, 0, 1, 38]
        self.assertEqual(answers(calls), [
            1, 0, 1, 2, 4, 1, 1, 0, 1, 1, 1, 3, 1, 1, 0, 3, 2, 1, 0, 2, 0, 1, 1, 0, 1, 0, 4, 1, 0, 0, 0, 2, 1, 1,
            2, 2, 1, 2, 0, 0, 1, 2, 4, 1, 0, 0, 0])

    def test_numbers_of_the_calls_on_both(self):
        calls = [0, 1, 1, 1, 0, 0, 39, 40, 41, 42, 43, 44, 0, 0, 0, 45, 1, 46, 47, 48, 49, 50]
        self.assertEqual(answers(calls), [
            1, 0, 1, 0, 2, 2, 1, 1, -33, 2, 0, 1, 3, 1, 0, 0, 3, 1, 1, 0, 1, 0, 3, 2, 0, 1, 3, 1, 0, 0, 1, 2,
            4, 0, 1, 2, 1, 3, 1, 0, 2, 4, 1, 1, 1, 0])

    def test_ends_has_no_count_but_the_two(self):
        self.assertEqual(answers([0, 1, 2, 20, 0, 0, 0, 26])[-7:], [6, 2, 2, 1, 2, 0, 2])

    def test_gives_back_a_list_of_whole_numbers(self):
        given = answers(EVERYTHING)
        self.assertIs(list, given.__class__)
        self.assertEqual({int}, {number.__class__ for number in given})

    def test_what_is_handed_in_is_as_it_was(self):
        calls = list(EVERYTHING)
        answers(calls)
        self.assertEqual(calls, EVERYTHING)

    def test_what_is_handed_in_is_never_changed(self):
        class Watched(list):
            def refuse(self, *values):
                raise AssertionError("changed")
            append = extend = insert = pop = remove = clear = sort = reverse = refuse
            __setitem__ = __delitem__ = __iadd__ = __imul__ = refuse
        self.assertEqual(answers(Watched(EVERYTHING)), answers(EVERYTHING))

    def test_asking_twice_gives_the_same(self):
        first = answers(EVERYTHING)
        self.assertEqual(answers([3, 17, 22, 38, 50]), [1, -11] * 5)
        self.assertEqual(answers(EVERYTHING), first)

    def test_what_is_given_back_is_not_kept(self):
        calls = told(braced(1, 1, [(0, 0)]) + [("all",), ("parts",)])
        first = answers(calls)
        wanted = list(first)
        first.clear()
        self.assertEqual(answers(calls), wanted)

    def test_prints_nothing(self):
        out = io.StringIO()
        with contextlib.redirect_stdout(out), contextlib.redirect_stderr(out):
            answers(EVERYTHING)
        self.assertEqual(out.getvalue(), "")

    def test_400_calls(self):
        bars = squares(5, 5)
        calls = standing(5, 5, bars, both_kinds(bars))
        calls += [("spares",), ("thin",), ("put",), ("tparts",), ("idle",), ("tspares",)] * 54
        self.assertEqual(len(calls), 400)
        found = ask(*calls)
        self.assertEqual(len(found), 400)
        self.assertEqual(found[-6], [25] + [number for bar in bars for number in bar])
        self.assertEqual(found[-5][0], 9)
        self.assertEqual(found[-4:-2], [[0], [10] + [0] * 10])
        self.assertEqual(found[-2], found[-6])
        self.assertEqual(found[-1][0], 50)

    def test_400_calls_that_try_many_sets(self):
        calls = standing(3, 3, squares(3, 3)[:8], [(0, 0, 0), (1, 0, 1)]) + [("tput",)] * 389
        self.assertEqual(len(calls), 400)
        self.assertEqual(ask(*calls)[11:], [[4, 0, 1, 1, 1, 2, 0, 2, 1, 0, 2, 2, 1]] * 389)
        # Each column needs a tie to it and one away from it: five are missing, though there are but four ends.
        calls = standing(2, 4, [], [(0, 2, 1), (0, 3, 0), (1, 1, 1)]) + [("tput",)] * 396
        self.assertEqual(ask(*calls)[4:], [[-33]] * 396)

    def test_400_calls_that_try_many_kinds(self):
        bars = [(0, column) for column in range(5)] + [(row, 0) for row in range(1, 5)]
        calls = braced(5, 5, bars) + [("single",)] * 390
        self.assertEqual(ask(*calls)[10:], [[-33]] * 390)

    def test_400_calls_in_turns(self):
        turns = [("brace", 1, 0), ("single",), ("tput",), ("untie", 1, 0, 1), ("tput",), ("both",), ("free", 1, 0)]
        turns += [("single",)]
        wanted = [[0], [4, 0, 1, 0, 1], [0], [4], [1, 1, 0, 1], [8, 1], [0], [-33]]
        calls = braced(2, 2, RING[:3]) + turns * 49
        self.assertEqual(len(calls), 396)
        self.assertEqual(ask(*calls)[4:], wanted * 49)

    def test_400_calls_of_the_longest(self):
        for name in ("turn", "tturn"):
            calls = told([(name, [MOST] * 12)] * 400)
            self.assertEqual(len(calls), 5600)
            self.assertEqual(answers(calls), [1, -11] * 400)

    def test_400_begins(self):
        self.assertEqual(ask(*[("begin", 5, 5), ("begin", 0, 9)] * 200), [[0], [-22]] * 200)


class NothingChangesTest(unittest.TestCase):
    WALL = standing(2, 2, [(1, 1), (0, 0), (0, 1)], [(1, 0, 1), (0, 0, 0), (0, 0, 1)])

    def assert_unchanged(self, call, refusal=None):
        before = behind(self.WALL, *QUESTIONS)
        after = behind(self.WALL, call, *QUESTIONS)
        if refusal is not None:
            self.assertEqual(after[0], [refusal])
        self.assertEqual(after[1:], before)

    def test_what_is_refused_changes_nothing(self):
        refused = [
            (("begin", 0, 2), -22), (("begin", 2, 6), -22), (("begin", MOST, MOST), -22),
            (("brace", 0, 0), -17), (("brace", 2, 0), -2), (("brace", 0, MOST), -2),
            (("free", 1, 0), -6), (("free", 0, 2), -2), (("part", 4), -2), (("still", 2, 0), -2),
            (("alike", 0, 0, 0, 2), -2), (("spare", 1, 0), -6), (("spare", 2, 2), -2), (("turn", [1, 2, 3]), -22),
            (("turn", [0] * 12), -22), (("falls", 1, 0), -6), (("falls", 2, 0), -2), (("would", 0, 0), -17),
            (("would", 0, 2), -2), (("row", 2), -2), (("column", 2), -2), (("tie", 0, 0, 0), -17),
            (("tie", 1, 0, 1), -17), (("tie", 0, 0, 2), -2), (("tie", 2, 0, 0), -2), (("untie", 1, 1, 0), -6),
            (("untie", 1, 0, 0), -6), (("untie", 1, 0, 2), -2), (("reach", 4), -2), (("tpart", MOST), -2),
            (("leans", 0, 2, 0), -2), (("lean", 2, 0, 0), -2), (("lean", 0, 0, 0), -33), (("tturn", [1, 2, 3]), -22),
            (("tturn", []), -22), (("tspare", 0, 0, 2), -2), (("tspare", 1, 0, 0), -6), (("twould", 2, 0, 0), -2),
            (("twould", 1, 0, 1), -17), (("tfalls", 0, MOST, 0), -2), (("tfalls", 1, 0, 0), -6), (("stiff", 0, 2), -2),
            (("flip", 1, 0, 2), -2), (("flip", 1, 0, 0), -6), (("flip", 0, 0, 0), -17), (("flip", 0, 0, 1), -17),
            (("single",), -33), (("mleans", 0, 0, MOST), -2), (("mpart", 4), -2),
        ]
        for call, refusal in refused:
            with self.subTest(call=call):
                self.assert_unchanged(call, refusal)

    def test_what_is_too_much_changes_nothing(self):
        wall = standing(2, 5, squares(2, 5)[::-1], [(1, 4, 1), (0, 0, 0), (0, 0, 1)])
        asked = [("all",), ("ties",), ("state",), ("count",), ("mixed",), ("tall",), ("stills",)]
        found = behind(wall, *asked, ("tput",), *asked, ("single",), *asked)
        self.assertEqual([found[7], found[15]], [[-28], [-28]])
        self.assertEqual(found[8:15], found[:7])
        self.assertEqual(found[16:], found[:7])

    def test_too_few_changes_nothing(self):
        wall = standing(3, 3, squares(1, 3), [(1, 1, 1)])
        asked = [("all",), ("ties",), ("state",), ("mixed",)]
        found = behind(wall, *asked, ("tput",), ("single",), *asked)
        self.assertEqual(found[4:6], [[-33], [-33]])
        self.assertEqual(found[6:], found[:4])

    def test_no_question_changes_anything(self):
        for call in QUESTIONS:
            with self.subTest(call=call):
                self.assert_unchanged(call)

    def test_what_is_changed_back_is_as_it_was(self):
        found = behind(WALL, *QUESTIONS, *CHANGES, *QUESTIONS)
        self.assertEqual(found[:len(QUESTIONS)], found[-len(QUESTIONS):])
        calls = [("brace", 1, 0), ("free", 1, 0), ("tie", 1, 1, 1), ("untie", 1, 1, 1)]
        calls += [("flip", 1, 0, 1), ("flip", 1, 0, 0)]
        self.assertEqual(behind(self.WALL, *calls, *QUESTIONS)[len(calls):], behind(self.WALL, *QUESTIONS))


class OrderOfRefusalsTest(unittest.TestCase):

    def test_none_such_goes_first(self):
        wall = standing(1, 1, [(0, 0)], ROUND[:1] + [(0, 0, 1)])
        for name, due in (("tie", -17), ("flip", -17), ("twould", -17), ("lean", -33)):
            self.assertEqual(behind(wall, (name, 0, 0, 0), (name, 0, 0, 2), (name, 1, 0, 0), (name, 0, 1, 0)), [
                [due], [-2], [-2], [-2]])
        for name in ("untie", "flip", "tspare", "tfalls"):
            self.assertEqual(behind(braced(1, 1, []), (name, 0, 0, 0), (name, 0, 0, 2), (name, 1, 0, 0)), [
                [-6], [-2], [-2]])

    def test_not_there_goes_ahead_of_there_already(self):
        wall = standing(1, 1, [], [(0, 0, 1)])
        self.assertEqual(behind(wall, ("flip", 0, 0, 0), ("flip", 0, 0, 2), ("tie", 0, 0, 0), ("flip", 0, 0, 0)), [
            [-6], [-2], [1], [-17]])

    def test_too_many_goes_ahead_of_not_so(self):
        self.assertEqual(behind(standing(2, 5, [], []), ("tput",), ("single",)), [[-28], [-33]])
        self.assertEqual(behind(standing(5, 5, squares(2, 5), []), ("tput",), ("single",)), [[-28], [-28]])


if __name__ == "__main__":
    unittest.main()
