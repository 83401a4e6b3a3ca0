"""The form of what is handed in and given back, and what holds of all calls."""

import contextlib
import io
import itertools
import unittest

from firmframe.walls import answers
from tests.lines import MOST, QUESTIONS, ask, braced, squares, tied, told
from tests.models import Bars, firsts, tie_steps, walk


def subsets(things):
    for size in range(len(things) + 1):
        yield from itertools.combinations(things, size)


def pairs(places):
    return [len(places)] + [number for place in places for number in place]


class FormTest(unittest.TestCase):

    def test_plain_numbers_in_and_out(self):
        self.assertEqual(answers([0, 2, 1, 1, 1, 0, 3, 17]), [1, 0, 1, 1, 2, 0, 1, 3, 1, 1, 0])

    def test_a_way_has_its_count_before_it(self):
        self.assertEqual(answers([0, 1, 1, 13, 2, 7, 7, 3]), [1, 0, 2, 1, 0, 2, 0, 1])
        self.assertEqual(answers([0, 1, 1, 13, 0, 3]), [1, 0, 1, -22, 2, 0, 1])
        self.assertEqual(answers([0, 1, 1, 13, 12] + [3] * 12 + [3]), [1, 0, 1, -22, 2, 0, 1])

    def test_a_refusal_is_its_number_alone(self):
        self.assertEqual(answers([3]), [1, -11])
        self.assertEqual(answers([0, 6, 6, 3]), [1, -22, 1, -11])
        self.assertEqual(answers([0, 1, 1, 5, 2, 14, 0, 0]), [1, 0, 1, -2, 1, -6])

    def test_numbers_of_the_calls(self):
        calls = [0, 1, 1, 1, 0, 0, 2, 0, 0, 3, 4, 5, 0, 6, 0, 0, 7, 8, 0, 0, 0, 0, 9, 0, 0, 10, 11, 12, 13, 2, 5, 6]
        calls += [14, 0, 0, 15, 0, 0, 16, 17, 18, 0, 19, 0, 20, 0, 0, 1, 21, 0, 0, 0, 22, 23, 1, 24, 1, 25]
        self.assertEqual(answers(calls), [
            1, 0, 1, 0, 1, 1, 2, 0, 1, 3, 2, 0, 1, 2, 1, 0, 1, 0, 2, 0, 0, 1, 1, 1, -6, 1, 0, 3, 1, 0, 0, 1, 0,
            2, 1, 1, 1, -6, 2, 0, 1, 2, 1, 0, 1, 0, 1, 0, 1, 0, 1, 2, 1, -6, 2, 0, 2, 3, 2, 0, 1, 2, 1, 1, 3, 2, 0, 1])

    def test_gives_back_a_list_of_whole_numbers(self):
        calls = told(braced(2, 2, [(0, 0), (0, 1), (1, 1)]) + [("tie", 0, 0, 1)] + QUESTIONS)
        given = answers(calls)
        self.assertIs(list, given.__class__)
        self.assertEqual({int}, {number.__class__ for number in given})

    def test_what_is_handed_in_is_as_it_was(self):
        calls = told(braced(2, 2, [(0, 0), (0, 1)]) + tied(2, 2, [(0, 0, 1)]) + QUESTIONS + [("free", 0, 0)])
        before = list(calls)
        answers(calls)
        self.assertEqual(calls, before)

    def test_what_is_handed_in_is_never_changed(self):
        class Watched(list):
            def refuse(self, *values):
                raise AssertionError("changed")
            append = extend = insert = pop = remove = clear = sort = reverse = refuse
            __setitem__ = __delitem__ = __iadd__ = __imul__ = refuse
        calls = told(braced(2, 2, [(0, 0), (0, 1)]) + tied(2, 2, [(0, 0, 1)]) + QUESTIONS + [("turn", [1, 2])])
        self.assertEqual(answers(Watched(calls)), answers(calls))

    def test_asking_twice_gives_the_same(self):
        calls = told(braced(2, 2, [(0, 0), (0, 1)]) + [("tie", 0, 0, 1)] + QUESTIONS)
        first = answers(calls)
        self.assertEqual(answers([3, 17, 22]), [1, -11, 1, -11, 1, -11])
        self.assertEqual(answers(calls), first)

    def test_what_is_given_back_is_not_kept(self):
        calls = told(braced(1, 1, [(0, 0)]) + [("all",), ("parts",)])
        first = answers(calls)
        wanted = list(first)
        first.clear()
        self.assertEqual(answers(calls), wanted)

    def test_prints_nothing(self):
        out = io.StringIO()
        with contextlib.redirect_stdout(out), contextlib.redirect_stderr(out):
            answers(told(braced(2, 2, [(0, 0)]) + QUESTIONS))
        self.assertEqual(out.getvalue(), "")

    def test_400_calls(self):
        bars = squares(5, 5)
        ties = [(row, column, kind) for row, column in bars for kind in (0, 1)]
        calls = braced(5, 5, bars) + [("tie",) + tie for tie in ties]
        calls += [("spares",), ("thin",), ("put",), ("tparts",)] * 81
        self.assertEqual(len(calls), 400)
        found = ask(*calls)
        self.assertEqual(len(found), 400)
        self.assertEqual(found[-4], pairs(bars))
        self.assertEqual(found[-3][0], 9)
        self.assertEqual(found[-2:], [[0], [10] + [0] * 10])

    def test_400_calls_of_the_longest(self):
        calls = told([("turn", [MOST] * 12)] * 400)
        self.assertEqual(len(calls), 5600)
        self.assertEqual(answers(calls), [1, -11] * 400)

    def test_400_begins(self):
        self.assertEqual(ask(*[("begin", 5, 5), ("begin", 0, 9)] * 200), [[0], [-22]] * 200)


class NothingChangesTest(unittest.TestCase):
    WALL = braced(2, 2, [(1, 1), (0, 0), (0, 1)]) + [("tie", 1, 0, 1), ("tie", 0, 0, 0), ("tie", 0, 0, 1)]

    def assert_unchanged(self, call, refusal=None):
        before = ask(*self.WALL, *QUESTIONS)
        after = ask(*self.WALL, call, *QUESTIONS)
        answer = after.pop(len(self.WALL))
        if refusal is not None:
            self.assertEqual(answer, [refusal])
        self.assertEqual(after, before)

    def test_what_is_refused_changes_nothing(self):
        refused = [
            (("begin", 0, 2), -22), (("begin", 2, 6), -22), (("begin", MOST, MOST), -22),
            (("brace", 0, 0), -17), (("brace", 2, 0), -2), (("brace", 0, MOST), -2),
            (("free", 1, 0), -6), (("free", 0, 2), -2), (("part", 4), -2), (("still", 2, 0), -2),
            (("alike", 0, 0, 0, 2), -2), (("spare", 1, 0), -6), (("spare", 2, 2), -2), (("turn", [1, 2, 3]), -22),
            (("turn", [0] * 12), -22), (("falls", 1, 0), -6), (("falls", 2, 0), -2), (("would", 0, 0), -17),
            (("would", 0, 2), -2), (("row", 2), -2), (("column", 2), -2), (("tie", 0, 0, 0), -17),
            (("tie", 1, 0, 1), -17), (("tie", 0, 0, 2), -2), (("tie", 2, 0, 0), -2), (("untie", 1, 1, 0), -6),
            (("untie", 1, 0, 0), -6), (("untie", 1, 0, 2), -2), (("reach", 4), -2), (("tpart", MOST), -2),
        ]
        for call, refusal in refused:
            with self.subTest(call=call):
                self.assert_unchanged(call, refusal)

    def test_no_question_changes_anything(self):
        for call in QUESTIONS:
            with self.subTest(call=call):
                self.assert_unchanged(call)

    def test_bars_and_ties_told_and_taken_back(self):
        before = ask(*self.WALL, *QUESTIONS)[len(self.WALL):]
        calls = self.WALL + [("brace", 1, 0), ("free", 1, 0), ("tie", 1, 1, 1), ("untie", 1, 1, 1)]
        self.assertEqual(ask(*calls, *QUESTIONS)[len(calls):], before)


class EveryWallTest(unittest.TestCase):

    def check_bars(self, rows, columns, bars):
        wall = Bars(rows, columns, bars)
        calls = braced(rows, columns, bars)
        calls += [("firm",), ("parts",), ("stills",), ("spares",), ("put",), ("thin",), ("least",), ("all",)]
        wanted = [
            [1 if wall.shears == 0 else 0, wall.shears],
            [wall.strips] + wall.firsts,
            [len(wall.kept())] + [1 if wall.keeps(square) else 0 for square in wall.squares],
            pairs([bar for bar in wall.bars if wall.spare(bar)]),
            pairs(wall.put()), pairs(wall.thin()),
            [rows + columns - 1, len(bars) - (wall.strips - wall.parts)],
            pairs(wall.bars),
        ]
        for square in wall.squares:
            calls += [("spare",) + square, ("falls",) + square, ("would",) + square]
            if square in wall.bars:
                less = wall.less(square)
                wanted += [
                    [1 if wall.spare(square) else 0], [len(wall.kept() - less.kept()), less.shears], [-17]]
            else:
                more = wall.more(square)
                wanted += [[-6], [-6], [more.shears, len(more.kept() - wall.kept())]]
        self.assertEqual(ask(*calls)[1 + len(bars):], wanted)

    def test_all_bars_of_small_walls(self):
        for rows, columns in ((1, 1), (1, 4), (4, 1), (2, 2), (2, 3), (3, 2)):
            for bars in subsets(squares(rows, columns)):
                self.check_bars(rows, columns, bars)
                self.check_bars(rows, columns, bars[::-1])

    def test_bars_of_larger_walls(self):
        for rows, columns in ((1, 5), (5, 1), (3, 3), (4, 3), (5, 5)):
            places = squares(rows, columns)
            for step in range(1, 8):
                for start in range(step):
                    order = [places[(start + 7 * k) % len(places)] for k in range(0, len(places), step)]
                    self.check_bars(rows, columns, list(dict.fromkeys(order)))

    def check_ties(self, rows, columns, ties):
        strips = rows + columns
        steps = tie_steps(rows, ties)
        labels = firsts(strips, steps)
        parts = len(set(labels))
        calls = tied(rows, columns, ties) + [("tfirm",), ("tparts",)]
        wanted = [[1 if parts == 1 else 0, parts], [strips] + labels]
        for strip in range(strips):
            calls += [("reach", strip), ("tpart", strip)]
            wanted += [
                pairs([[other] for other in sorted(walk(steps, strip))]),
                pairs([[other] for other in range(strips) if labels[other] == labels[strip]])]
        self.assertEqual(ask(*calls)[1 + len(ties):], wanted)

    def test_all_ties_of_small_walls(self):
        for rows, columns in ((1, 1), (1, 3), (3, 1), (2, 2)):
            places = [(row, column, kind) for row, column in squares(rows, columns) for kind in (0, 1)]
            for ties in subsets(places):
                self.check_ties(rows, columns, ties)
                self.check_ties(rows, columns, ties[::-1])

    def test_ties_of_larger_walls(self):
        for rows, columns in ((1, 5), (5, 1), (3, 4), (5, 5)):
            places = [(row, column, kind) for row, column in squares(rows, columns) for kind in (0, 1)]
            for step in range(1, 8):
                for start in range(step):
                    order = [places[(start + 11 * k) % len(places)] for k in range(0, len(places), step)]
                    self.check_ties(rows, columns, list(dict.fromkeys(order)))


class WhatHoldsTest(unittest.TestCase):

    def test_by_bars_firm_just_if_it_cannot_shear(self):
        ways = [list(way) for way in itertools.product((0, 1), repeat=5)]
        for bars in subsets(squares(2, 3)):
            wall = braced(2, 3, bars)
            found = ask(*wall, ("firm",), *[("turn", way) for way in ways])[len(wall):]
            kept = [way for way, answer in zip(ways, found[1:]) if answer[0] == 1]
            # Each part may turn by 0 or by 1 as it likes; a firm wall only as a whole.
            self.assertEqual(len(kept), 2 ** (found[0][1] + 1))
            self.assertEqual(found[0][0] == 1, kept == [[0] * 5, [1] * 5])

    def test_by_ties_firm_just_if_it_cannot_lean(self):
        places = [(row, column, kind) for row, column in squares(2, 2) for kind in (0, 1)]
        for ties in subsets(places):
            leaning = False
            for way in itertools.product((0, 1), repeat=4):
                keeps = all(
                    way[row] <= way[2 + column] if kind == 0 else way[2 + column] <= way[row]
                    for row, column, kind in ties)
                leaning = leaning or (keeps and len(set(way)) > 1)
            wall = tied(2, 2, ties)
            self.assertEqual(ask(*wall, ("tfirm",))[-1][0] == 0, leaning)

    def test_shears_are_parts_less_one_and_bars_as_two_ties_are_as_firm(self):
        for bars in subsets(squares(2, 3)):
            ties = [(row, column, kind) for row, column in bars for kind in (0, 1)]
            calls = braced(2, 3, bars) + [("tie",) + tie for tie in ties] + [("parts",), ("tparts",)]
            found = ask(*calls)
            self.assertEqual(found[-2], found[-1])


if __name__ == "__main__":
    unittest.main()
