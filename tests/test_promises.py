"""Tests of D1 to D4 over all seven calls together, over tops that are made here."""

import contextlib
import inspect
import io
import itertools
import unittest

import reference
from paperpiecing import papers
from paperpiecing.papers import can, check, fewest, lasts, order, sheets, take
from reference import GREATEST, listed, many_tops, paper, slowly_read

SEED = 61


def on_one_paper():
    """Those of the tops that go on one paper, each with its bytes and its told order."""
    for text in many_tops(SEED):
        told = order(listed(text))
        if told[0] == 0:
            yield text, listed(text), told[1:]


class NoLastOneIsWrong(unittest.TestCase):
    """D1."""

    def test_each_last_one_ends_an_order(self):
        for text, given, told in on_one_paper():
            for patch in lasts(given)[1:]:
                rest = [other for other in told if other != patch]
                self.assertEqual(check(given, rest + [patch]), [0, 1], (text, patch))

    def test_no_other_one_does(self):
        for text, given, told in on_one_paper():
            if 1 < len(told) < 6:
                ends = [row[-1] for row in itertools.permutations(told) if check(given, list(row)) == [0, 1]]
                self.assertEqual(sorted(set(ends)), lasts(given)[1:], text)

    def test_taking_off_never_gets_stuck(self):
        # Whichever are taken off, an order comes of it, and just if the top goes on one paper.
        source = reference.numbers_from(71)
        for text in many_tops(SEED):
            everything, sides = slowly_read(text)
            for time in range(3):
                left, row = list(everything), []
                while len(left) > 1 and reference.lasts_of(sides, left):
                    found = reference.lasts_of(sides, left)
                    row.insert(0, found[next(source) % len(found)])
                    left.remove(row[0])
                self.assertEqual(can(listed(text)), [0, 1 if len(left) == 1 else 0], text)
                self.assertEqual(check(listed(text), left + row), can(listed(text)), text)

    def test_none_without_an_order_where_taking_off_gets_stuck_at_once(self):
        for text in many_tops(SEED):
            given = listed(text)
            if lasts(given) == [0]:
                single = len(slowly_read(text)[0]) == 1
                self.assertEqual(can(given), [0, 1 if single else 0], text)


class Orders(unittest.TestCase):
    """D2."""

    def test_the_told_order_is_one(self):
        for text, given, told in on_one_paper():
            self.assertEqual(check(given, told), [0, 1], text)
            self.assertEqual(take(given, paper(*told)), [0, 1, 1], text)
            self.assertEqual(sorted(told), list(slowly_read(text)[0]), text)

    def test_there_is_none_where_can_tells_none(self):
        for text in many_tops(SEED):
            self.assertEqual(can(listed(text)) == [0, 0], order(listed(text)) == [-5], text)

    def test_on_one_paper_is_told_by_fewest_as_one(self):
        for text, given, told in on_one_paper():
            if len(told) > 10:
                self.assertEqual((fewest(given), sheets(given)), ([-8], [-8]), text)
            else:
                self.assertEqual((fewest(given), sheets(given)), ([0, 1], [0] + paper(*told)), text)

    def test_on_one_paper_is_sewn_by_straight_seams(self):
        # An order told as seams: along one line each time the last patch, which is a paper by itself.
        for text, given, told in on_one_paper():
            everything, sides = slowly_read(text)
            row = paper(told[0])
            for place in range(1, len(told)):
                seams = reference.seams_of(sides, tuple(told[:place + 1]))
                (direction, at), (before, behind) = next(seam for seam in seams if (told[place],) in seam[1])
                sides_told = row + paper(told[place]) if behind == (told[place],) else paper(told[place]) + row
                row = [direction, at + 64] + sides_told
            self.assertEqual(take(given, row), [0, 1, len(told)], (text, row))


class Fewest(unittest.TestCase):
    """D3."""

    def test_the_told_sheets_are_taken_with_the_fewest_papers(self):
        for text in many_tops(SEED):
            given = listed(text)
            answer = sheets(given)
            if answer[0] == 0:
                self.assertEqual(take(given, answer[1:]), [0, 1, fewest(given)[1]], text)
            else:
                self.assertEqual(fewest(given), answer, text)

    def test_no_sheets_have_fewer(self):
        source = reference.numbers_from(107)
        for text in many_tops(SEED):
            given = listed(text)
            everything, sides = slowly_read(text)
            if fewest(given)[0] == 0:
                for time in range(4):
                    row = reference.row_of(reference.some_sheets(sides, everything, source))
                    self.assertEqual(take(given, row)[:2], [0, 1], (text, row))
                    self.assertGreaterEqual(take(given, row)[2], fewest(given)[1], (text, row))

    def test_none_are_taken_where_there_are_none(self):
        for text in many_tops(SEED):
            given = listed(text)
            everything, sides = slowly_read(text)
            if fewest(given) == [-5] and len(everything) < 6:
                self.assertEqual(reference.all_sheets(sides, everything), [], text)
                for row in itertools.permutations(everything):
                    self.assertEqual(take(given, paper(*row)), [0, 0, 0], (text, row))

    def test_one_just_if_there_is_an_order(self):
        for text in many_tops(SEED):
            given = listed(text)
            if fewest(given) != [-8]:
                self.assertEqual(fewest(given) == [0, 1], can(given) == [0, 1], text)


class RowsAndSheets(unittest.TestCase):
    """D4."""

    def test_sheets_that_differ_have_rows_that_differ(self):
        for text in many_tops(SEED):
            everything, sides = slowly_read(text)
            if len(everything) < 5:
                found = reference.all_sheets(sides, everything)
                self.assertEqual(len(found), len(set(found)), text)
                rows = {tuple(reference.row_of(one)) for one in found}
                self.assertEqual(len(rows), len(found), text)
                for one in found:
                    row = reference.row_of(one)
                    self.assertEqual(reference.read_sheets(row), (one, []), text)
                    self.assertEqual(take(listed(text), row), [0, 1, reference.papers_in(one)], (text, row))

    def test_no_other_short_row_is_taken(self):
        # All rows of up to five numbers, of those that may stand in a row of sheets.
        for text in ("a\n", "a b\n", "a/b\n"):
            given = listed(text)
            everything, sides = slowly_read(text)
            rows = [tuple(reference.row_of(one)) for one in reference.all_sheets(sides, everything)]
            for count in range(6):
                for row in itertools.product((0, 1, 2, 3, 5, 65), repeat=count):
                    self.assertEqual(take(given, list(row))[1], 1 if row in rows else 0, (text, row))

    def test_no_row_is_the_front_of_another(self):
        for text in many_tops(SEED):
            given = listed(text)
            row = sheets(given)[1:]
            for count in range(len(row)):
                self.assertEqual(take(given, row[:count]), [0, 0, 0], (text, count))
            if row:
                self.assertEqual(take(given, row + row[:1]), [0, 0, 0], text)


class TheInterface(reference.Case):
    CALLS = {"can": 1, "order": 1, "check": 2, "lasts": 1, "fewest": 1, "sheets": 1, "take": 2}

    def test_names_and_arguments(self):
        for name, count in self.CALLS.items():
            self.assertEqual(list(inspect.signature(getattr(papers, name)).parameters), ["text", "row"][:count], name)

    def test_every_call_refuses_alike(self):
        for name, count in self.CALLS.items():
            call = getattr(papers, name)
            for text, answer in (([], -6), ([0] * 1024, -6), ([0] * 1025, -2), ([255] * 20000, -2), (b"a\n\n", -6)):
                self.hold(call, [answer], *[list(text), [GREATEST] * 12000][:count])

    def test_calls_in_any_order(self):
        # Nothing that one call was asked changes what another one answers.
        texts = ["a b c\n", "abcd\n", "abbb\n", "a b\nc d\n", "abcd abcd abcd\n", "", "a" * 1025]
        rows = [[0, 1, 2], paper(0, 1, 2), [2, 64, 5, 2, 2, 3, 5, 2, 0, 1], []]
        asked = []
        for (name, count), text in itertools.product(self.CALLS.items(), texts):
            for row in rows if count == 2 else rows[:1]:
                asked.append((getattr(papers, name), [listed(text), list(row)][:count]))
        answers = [call(*given) for call, given in asked]
        self.assertEqual([call(*given) for call, given in reversed(asked)], answers[::-1])
        self.assertEqual([call(*given) for call, given in asked[::3]], answers[::3])

    def test_nothing_is_printed(self):
        out = io.StringIO()
        with contextlib.redirect_stdout(out), contextlib.redirect_stderr(out):
            for (name, count), text in itertools.product(self.CALLS.items(), (b"a b\n", b"abcd\n", b"", b"a" * 1025)):
                getattr(papers, name)(*[list(text), [5, 2, 0, 1]][:count])
        self.assertEqual(out.getvalue(), "")


if __name__ == "__main__":
    unittest.main()
