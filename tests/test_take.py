"""Tests of take: ordinary rows, rows that are nearly rows of sheets, the edges, and wrong inputs."""

import contextlib
import inspect
import io
import itertools
import sys
import time
import unittest

import reference
from paperpiecing.papers import check, fewest, order, sheets, take
from reference import GREATEST, LOG_CABIN, MANY_PAPERS, PINWHEEL, SLOW_TOPS
from reference import falling, level, listed, many_tops, paper, rising, slowly_read, upright

STRIPS = "a b c\n"
FOUR = "a b\nc d\n"
CORNERS = "abcd\n"
# One patch lies along two others.
ALONG = "a a\nb c\n"
SQUARES = "a b c d e f\nb c d e f a\nc d e f a b\nd e f a b c\ne f a b c d\nf a b c d e\n"
QUARTERS = "abcd efgh abcd efgh abcd efgh\nijkl mnop ijkl mnop ijkl mnop\n" * 3


def each_alone(left, seams):
    """The row in which each patch is a paper by itself, along the first line each time that seams tells."""
    if len(left) == 1:
        return paper(*left)
    (direction, at), (before, behind) = seams(left)[0]
    return [direction, at + 64] + each_alone(before, seams) + each_alone(behind, seams)


class Case(reference.Case):
    def taken(self, text, papers, *rows):
        for row in rows:
            self.hold(take, [0, 1, papers], listed(text), list(row))

    def not_taken(self, text, *rows):
        for row in rows:
            self.hold(take, [0, 0, 0], listed(text), list(row))

    def refused(self, text, number):
        """The text is refused, whatever the row is."""
        rows = [[], [5], paper(0), paper(0, 1), upright(1, paper(0), paper(1)), [GREATEST] * 12000, [0, 65] * 6000]
        for row in rows:
            self.hold(take, [number], listed(text), row)


class OrdinaryRows(Case):
    def test_numbers_themselves(self):
        self.taken("a\n", 1, [5, 1, 0])
        self.taken("a b\n", 1, [5, 2, 0, 1], [5, 2, 1, 0])
        self.taken("a b\n", 2, [0, 65, 5, 1, 0, 5, 1, 1])
        self.taken(CORNERS, 2, [2, 64, 5, 2, 2, 3, 5, 2, 0, 1])

    def test_the_told_sheets(self):
        for text in (*MANY_PAPERS, *SLOW_TOPS, "a\n", STRIPS, FOUR, CORNERS, ALONG, LOG_CABIN):
            self.taken(text, fewest(listed(text))[1], sheets(listed(text))[1:])

    def test_other_lines(self):
        self.taken(FOUR, 2, upright(1, paper(0, 2), paper(1, 3)), level(1, paper(0, 1), paper(2, 3)))
        self.taken(CORNERS, 2, falling(0, paper(2, 3), paper(0, 1)), rising(1, paper(0, 3), paper(1, 2)))

    def test_other_orders(self):
        for upper, lower in itertools.product(([0, 1], [1, 0]), ([2, 3], [3, 2])):
            self.taken(FOUR, 2, level(1, paper(*upper), paper(*lower)))

    def test_more_papers(self):
        self.taken(STRIPS, 2, upright(1, paper(0), paper(1, 2)), upright(2, paper(1, 0), paper(2)))
        last_alone = upright(2, upright(1, paper(0), paper(1)), paper(2))
        self.taken(STRIPS, 3, upright(1, paper(0), upright(2, paper(1), paper(2))), last_alone)
        self.taken(FOUR, 3, upright(1, level(1, paper(0), paper(2)), paper(1, 3)))
        self.taken(FOUR, 4, level(1, upright(1, paper(0), paper(1)), upright(1, paper(2), paper(3))))
        self.taken(CORNERS, 4, falling(0, rising(1, paper(3), paper(2)), rising(1, paper(0), paper(1))))
        self.taken("a/b\n", 2, rising(1, paper(0), paper(1)))
        self.taken("a\\b\n", 2, falling(0, paper(1), paper(0)))

    def test_a_line_that_cuts_a_patch_of_the_other_side_alone(self):
        self.taken(ALONG, 3, level(1, paper(0), upright(1, paper(1), paper(2))))
        self.taken(ALONG, 2, level(1, paper(0), paper(2, 1)))

    def test_lines_below_nought(self):
        for rows in range(1, 6):
            row = [2, 64 - rows, 5, 2, 3, 4, 5, 3, 0, 1, 2]
            self.taken("a\n" * rows + "bcde\n", 2, row)

    def test_a_paper_with_each_order(self):
        texts = ("a\n", "a b\n", STRIPS, ALONG, LOG_CABIN, "aabc\n", "abca\n", "b/a a b\\a\na a a\na\\b a a/b\n")
        for text in (*texts, FOUR, CORNERS):
            given = listed(text)
            total = len(slowly_read(text)[0])
            for row in itertools.permutations(range(total)):
                if check(given, list(row)) == [0, 1]:
                    self.taken(text, 1, paper(*row))
                else:
                    self.not_taken(text, paper(*row))

    def test_tops_that_can_not_be_sewn(self):
        for text, total in ((PINWHEEL, 5), ("a a\na b\n", 2), ("abbb\n", 2), ("a a a\na b a\na a a\n", 2)):
            for row in itertools.permutations(range(total)):
                self.not_taken(text, paper(*row))
            for (direction, at), patch in itertools.product(reference.LINES, range(total)):
                rest = [other for other in range(total) if other != patch]
                row = [direction, at + 64] + paper(patch) + paper(*rest)
                self.assertEqual(take(listed(text), row), [0, 0, 0], (text, row))


class ManyPatches(Case):
    def test_eleven_on_one_paper(self):
        text = "a a a a a a\nb b b b b b\nc c c c c c\nd d d d d d\ne e e e e e\nf g h i j k\n"
        told = order(listed(text))[1:]
        self.assertEqual(len(told), 11)
        self.taken(text, 1, paper(*told))
        self.not_taken(text, paper(*told[::-1]), told, paper(*told[:-1]))
        self.taken(text, 2, level(1, paper(0), paper(*told[:-1])))

    def test_thirty_six(self):
        columns = [paper(*range(x, 36, 6)) for x in range(6)]
        row = columns[5]
        for x in range(4, -1, -1):
            row = upright(x + 1, columns[x], row)
        self.taken(SQUARES, 6, row)
        rows = [paper(*range(6 * y, 6 * y + 6)) for y in range(6)]
        row = rows[0]
        for y in range(1, 6):
            row = level(y, row, rows[y])
        self.taken(SQUARES, 6, row)
        self.not_taken(SQUARES, row[:-1], row + [0], row[2:], paper(*range(36)))

    def test_each_patch_alone(self):
        for text, total in ((SQUARES, 36), (QUARTERS, 144)):
            everything, sides = slowly_read(text)
            self.assertEqual(len(everything), total)
            row = each_alone(everything, lambda left: reference.seams_of(sides, left))
            self.taken(text, total, row)
            self.not_taken(text, row[:-1], row + row, row[:-1] + [total])

    def test_one_paper_of_all(self):
        self.not_taken(QUARTERS, paper(*range(144)), paper(*range(143)), paper(*range(145)))


class NearlyRows(Case):
    def test_one_number_less(self):
        for text, row in self.bases():
            for place in range(len(row)):
                self.not_taken(text, row[:place] + row[place + 1:])

    def test_one_number_more(self):
        # Of these rows none becomes one of other sheets by one number more.
        for text, row in self.bases():
            for place, number in itertools.product(range(len(row) + 1), (0, 1, 2, 5, 64, 65, GREATEST)):
                self.not_taken(text, row[:place] + [number] + row[place:])

    def test_one_number_changed(self):
        numbers = [*range(9), *range(58, 72), 128, 255, 256, GREATEST]
        for text, row in self.bases():
            everything, sides = slowly_read(text)
            rows = {tuple(reference.row_of(one)): one for one in reference.all_sheets(sides, everything)}
            for place, number in itertools.product(range(len(row)), numbers):
                changed = row[:place] + [number] + row[place + 1:]
                papers = reference.papers_in(rows[tuple(changed)]) if tuple(changed) in rows else 0
                self.hold(take, [0, 1 if papers else 0, papers], listed(text), changed)
                if number == GREATEST:
                    self.assertEqual(papers, 0)

    def bases(self):
        yield "a\n", paper(0)
        yield STRIPS, paper(1, 0, 2)
        yield STRIPS, upright(1, paper(0), upright(2, paper(1), paper(2)))
        yield FOUR, upright(1, paper(0, 2), paper(1, 3))
        yield CORNERS, falling(0, rising(1, paper(3), paper(2)), paper(0, 1))
        yield ALONG, level(1, paper(0), upright(1, paper(1), paper(2)))

    def test_two_numbers_changed_about(self):
        for text, row in self.bases():
            everything, sides = slowly_read(text)
            rows = [reference.row_of(one) for one in reference.all_sheets(sides, everything)]
            for one, other in itertools.combinations(range(len(row)), 2):
                changed = list(row)
                changed[one], changed[other] = row[other], row[one]
                self.assertEqual(take(listed(text), changed)[1], 1 if changed in rows else 0, (text, changed))

    def test_a_line_beside_all_quarters(self):
        for at in (-64, -1, 0, 3, 4, 100):
            self.not_taken(STRIPS, upright(at, paper(0, 1, 2), []), upright(at, [], paper(0, 1, 2)))
            self.not_taken(STRIPS, upright(at, paper(0), paper(1, 2)), upright(at, paper(0, 1), paper(2)))
        self.not_taken(STRIPS, upright(0, paper(), paper(0, 1, 2)), upright(3, paper(0, 1, 2), paper()))
        self.not_taken(STRIPS, level(0, paper(), paper(0, 1, 2)), level(1, paper(0, 1, 2), paper()))

    def test_a_line_that_does_not_part_its_place(self):
        # It parts the whole, but not what is left there.
        self.not_taken(STRIPS, upright(1, paper(0), upright(1, paper(1), paper(2))))
        self.not_taken(STRIPS, upright(1, upright(2, paper(0), paper(1)), paper(2)))
        self.not_taken(STRIPS, upright(2, upright(2, paper(0), paper(1)), paper(2)))
        self.not_taken("a b\n", upright(1, upright(1, paper(0), paper()), paper(1)))
        self.not_taken("a b\n", upright(1, upright(1, paper(0), []), paper(1)))

    def test_a_line_that_cuts_a_patch(self):
        self.not_taken(ALONG, upright(1, paper(0, 1), paper(2)), upright(1, paper(1), paper(0, 2)))
        self.not_taken(ALONG, upright(1, paper(0, 1), paper(0, 2)), upright(1, paper(1), paper(2)))
        self.not_taken("a b\n", level(0, paper(0), paper(1)), falling(0, paper(0), paper(1)))
        self.not_taken("a b\n", falling(1, paper(0), paper(1)), rising(1, paper(0), paper(1)))
        self.not_taken("a/b\n", falling(0, paper(0), paper(1)), falling(0, paper(1), paper(0)))
        self.not_taken("a\\b\n", rising(1, paper(0), paper(1)), rising(1, paper(1), paper(0)))

    def test_another_lines_direction_or_place(self):
        row = falling(0, paper(2, 3), paper(0, 1))
        for direction, at in itertools.product(range(9), range(56, 73)):
            if (direction, at) != (2, 64):
                self.not_taken(CORNERS, [direction, at] + row[2:])

    def test_a_paper_that_lacks_a_patch(self):
        self.not_taken(FOUR, upright(1, paper(0), paper(1, 3)), upright(1, paper(0, 2), paper(1)))
        self.not_taken(FOUR, upright(1, [5, 2, 0], paper(1, 3)), upright(1, paper(0, 2), [5, 2, 1]))
        self.not_taken(STRIPS, paper(0, 1), paper(1, 2), paper(0), [5, 3, 0, 1])

    def test_a_paper_with_a_patch_of_the_other_side(self):
        self.not_taken(FOUR, upright(1, paper(0, 1), paper(2, 3)), upright(1, paper(0, 3), paper(1, 2)))
        self.not_taken(FOUR, upright(1, paper(0, 2, 1), paper(3)), upright(1, paper(0), paper(1, 3, 2)))
        self.not_taken(FOUR, upright(1, paper(0, 2), paper(1, 2)), upright(1, paper(0, 1), paper(1, 3)))
        self.not_taken(FOUR, upright(1, paper(0, 2, 1), paper(1, 3)), upright(1, paper(0, 2), paper(1, 3, 0)))

    def test_a_paper_with_a_patch_twice(self):
        self.not_taken(FOUR, upright(1, paper(0, 0), paper(1, 3)), upright(1, paper(0, 2), paper(3, 3)))
        self.not_taken(FOUR, upright(1, paper(0, 2, 0), paper(1, 3)), upright(1, paper(0, 2), paper(1, 3, 1)))
        self.not_taken(STRIPS, paper(0, 1, 1), paper(0, 0, 1, 2), paper(0, 1, 2, 2), paper(0, 0, 0))
        self.not_taken("a\n", paper(0, 0))

    def test_the_two_sides_changed_about(self):
        self.not_taken(FOUR, upright(1, paper(1, 3), paper(0, 2)), level(1, paper(2, 3), paper(0, 1)))
        self.not_taken(CORNERS, falling(0, paper(0, 1), paper(2, 3)), rising(1, paper(1, 2), paper(0, 3)))
        self.not_taken(STRIPS, upright(1, paper(1, 2), paper(0)), upright(1, upright(2, paper(1), paper(2)), paper(0)))
        self.not_taken(STRIPS, upright(1, paper(0), upright(2, paper(2), paper(1))))

    def test_a_number_that_is_no_direction(self):
        row = upright(1, paper(0), upright(2, paper(1), paper(2)))
        for number in (4, 6, 7, 8, 64, 255, 256, 260, 65536, 2 ** 31, 2 ** 32 - 4, GREATEST):
            self.not_taken(STRIPS, [number] + row[1:], row[:5] + [number] + row[6:])
            # Nor a paper's 5.
            self.not_taken(STRIPS, [number, 3, 0, 1, 2])
            self.not_taken("a\n", [number, 1, 0])

    def test_directions_alike_in_their_lower_bits(self):
        # No number counts as that which it would be if it were cut to fewer bits.
        row = level(1, paper(0, 1), paper(2, 3))
        for more in (4, 8, 256, 65536, 2 ** 31):
            for place in range(len(row)):
                self.not_taken(FOUR, row[:place] + [row[place] + more] + row[place + 1:])

    def test_a_paper_of_no_patches(self):
        for text in ("a\n", "a b\n", STRIPS, FOUR, PINWHEEL):
            self.not_taken(text, paper(), paper() * 2, paper() + paper(0), paper(0) + paper())
        self.not_taken("a b\n", paper() + paper(0, 1), paper(0, 1) + paper())
        self.not_taken("a b\n", upright(1, paper(), paper(0, 1)), upright(1, paper(0, 1), paper()))
        self.not_taken("a b\n", upright(1, paper(0), paper()), upright(1, paper(), paper()))

    def test_a_count_that_is_greater_than_what_is_left(self):
        for count in (3, 4, 5, 255, 2 ** 31, GREATEST):
            self.not_taken("a b\n", [5, count, 0, 1], [5, count], [5, count, 0], [0, 65, 5, 1, 0, 5, count, 1])
            self.not_taken("a b\n", [0, 65, 5, count, 0, 5, 1, 1])

    def test_a_count_that_is_less_than_what_is_there(self):
        self.not_taken("a b\n", [5, 1, 0, 1], [5, 0, 0, 1], [0, 65, 5, 0, 0, 5, 1, 1], [0, 65, 5, 1, 0, 5, 0, 1])

    def test_two_rows_one_behind_the_other(self):
        for text, row in self.bases():
            self.not_taken(text, row + row, row * 3)
        self.not_taken(FOUR, upright(1, paper(0, 2), paper(1, 3)) + level(1, paper(0, 1), paper(2, 3)))
        # Two papers without a seam.
        self.not_taken("a b\n", paper(0) + paper(1), paper(1) + paper(0))

    def test_an_order_without_a_papers_head(self):
        self.not_taken("a b\n", [0, 1], [1, 0], [2, 0, 1])
        self.not_taken(LOG_CABIN, [2, 4, 3, 1, 0], [5, 2, 4, 3, 1, 0])

    def test_a_row_with_its_answers_number_ahead(self):
        for text in ("a\n", FOUR, LOG_CABIN):
            self.not_taken(text, sheets(listed(text)))


class Edges(Case):
    def test_a_single_patch(self):
        for text in ("a\n", "aaaa\n", "a/a\n", "a\\a\n", "a a\na a\n", "a a a a a a\n" * 6):
            self.taken(text, 1, [5, 1, 0])
            self.not_taken(text, [5, 1, 1], [5, 1], [5, 0], [5, 2, 0, 0], [5, 2, 0, 1], [5, 1, 0, 0], [1, 0], [0])
            for direction, at in itertools.product(range(4), range(56, 80)):
                self.not_taken(text, [direction, at, 5, 1, 0, 5, 1, 0])

    def test_no_number_and_one(self):
        for text in ("a\n", "a b\n", FOUR, PINWHEEL, QUARTERS):
            self.not_taken(text, [])
            for number in (0, 1, 2, 3, 4, 5, 6, 64, 65, GREATEST):
                self.not_taken(text, [number])

    def test_every_size(self):
        for wide, high in itertools.product(range(1, 7), repeat=2):
            columns = (" ".join("abcdef"[:wide]) + "\n") * high
            self.taken(columns, 1, paper(*range(wide)), paper(*range(wide)[::-1]))
            row = paper(0)
            for x in range(1, wide):
                row = upright(x, row, paper(x))
            self.taken(columns, wide, row)

    def test_outermost_lines(self):
        upper_right, lower_left, lower_right = "a a a a a b\\a\n", "a\\b a a a a a\n", "a a a a a a/b\n"
        plain = "a a a a a a\n"
        self.taken(upper_right + plain * 5, 2, falling(5, paper(0), paper(1)))
        self.taken(plain * 5 + lower_left, 2, falling(-5, paper(1), paper(0)))
        self.taken(plain * 5 + lower_right, 2, rising(11, paper(0), paper(1)))
        self.taken("b/a a a a a a\n" + plain * 5, 2, rising(1, paper(0), paper(1)))

    def test_the_greatest_number_in_each_place(self):
        for text in ("a\n", STRIPS, FOUR, CORNERS, LOG_CABIN, *MANY_PAPERS):
            row = sheets(listed(text))[1:]
            for place, number in itertools.product(range(len(row)), (GREATEST, GREATEST - 1, 2 ** 31)):
                self.not_taken(text, row[:place] + [number] + row[place + 1:])
        for count in range(1, 12):
            self.not_taken(FOUR, [GREATEST] * count)

    def test_twelve_thousand_numbers(self):
        told = sheets(listed(FOUR))[1:]
        rows = [
            [0, 65] * 6000,
            [1, 65] * 6000,
            [2, 64] * 6000,
            [3, 65] * 6000,
            [0, 65, 1, 65] * 3000,
            [0, 66, 0, 65, 2, 64, 3, 65] * 1500,
            [5, 1, 0] * 4000,
            [5, 0] * 6000,
            [5, 2, 0, 1] * 3000,
            [5, 11998] + list(range(11998)),
            [5, 11998] + [0] * 11998,
            [5, 4] + [0] * 11998,
            told * 1200,
            told + [0] * (12000 - len(told)),
            [0] * 12000,
            [5] * 12000,
            [GREATEST] * 12000,
        ]
        self.assertEqual({len(row) for row in rows}, {12000})
        for text in ("a\n", "a b\n", FOUR, CORNERS, SQUARES, QUARTERS):
            self.not_taken(text, *rows)

    def test_the_time_is_bounded(self):
        # They take some hundredths of a second at most: the bound leaves room for a slow machine.
        everything, sides = slowly_read(QUARTERS)
        alone = each_alone(everything, lambda left: reference.seams_of(sides, left))
        columns = "a b c d e f\n" * 6
        rows = [alone, alone + [0] * 11000, paper(*range(144)), [0, 65] * 6000, [5, 12000] + [0] * 11998]
        for text, row in itertools.product((QUARTERS, columns), rows):
            start = time.process_time()
            take(listed(text), row)
            self.assertLess(time.process_time() - start, 2, text)

    def test_a_call_by_itself(self):
        # What was answered before, or was done to an answer, changes no answer.
        text = listed(FOUR)
        row = sheets(text)[1:]
        answer = take(text, row)
        answer.append(7)
        self.assertEqual(take(text, []), [0, 0, 0])
        self.assertEqual(take([], row), [-6])
        self.assertEqual(take(listed("a\n"), row), [0, 0, 0])
        self.assertEqual(take(text, row), [0, 1, 2])

    def test_nothing_is_printed(self):
        out = io.StringIO()
        with contextlib.redirect_stdout(out), contextlib.redirect_stderr(out):
            for text in (b"a b\n", b"abcd\n", b"abbb\n", b"", b"a" * 2000):
                for row in ([], [5], [5, 2, 0, 1], [0, 65, 5, 1, 0, 5, 1, 1], [GREATEST] * 5):
                    take(list(text), row)
        self.assertEqual(out.getvalue(), "")

    def test_loops_not_nested_calls(self):
        everything, sides = slowly_read(QUARTERS)
        alone = each_alone(everything, lambda left: reference.seams_of(sides, left))
        columns = paper(5)
        for x in range(5, 0, -1):
            columns = upright(x, paper(x - 1), columns)
        limit = sys.getrecursionlimit()
        sys.setrecursionlimit(len(inspect.stack()) + 30)
        try:
            answers = [
                take(listed(QUARTERS), alone),
                take(listed("a b c d e f\n"), columns),
                take(listed(QUARTERS), [0, 65] * 6000),
                take(listed(QUARTERS), [5, 1, 0] * 4000),
                take([97] * 20000, [0, 65] * 6000),
            ]
        finally:
            sys.setrecursionlimit(limit)
        self.assertEqual(answers, [[0, 1, 144], [0, 1, 6], [0, 0, 0], [0, 0, 0], [-2]])


class WrongTexts(Case):
    def test_no_bytes(self):
        self.refused("", -6)

    def test_length(self):
        for filler in ("a", "a ", "\n", "a\n", "a b\n", "a b c d e f\n"):
            text = (filler * 20000)[:20000]
            self.refused(text[:1024], -6)
            self.refused(text[:1025], -2)
            self.refused(text, -2)

    def test_at_fault(self):
        for text in ("a", "\n", "a\n\n", "a b\nc\n", "ab\n", "a/\n", " a\n", "a \n", "a  b\n", "a\r\n", "1\n"):
            self.refused(text, -6)
        self.refused("abcde\n", -6)
        self.refused("a a a a a a a\n", -6)
        self.refused("a\n" * 7, -6)
        self.refused([255], -6)
        self.refused([0, 10], -6)

    def test_too_long_counts_before_the_fault(self):
        self.refused([0] * 1024, -6)
        self.refused([0] * 1025, -2)
        self.refused("a b\n" + "a" * 1021, -2)

    def test_no_other_refusals(self):
        # Neither too many patches nor a top that can't be sewn is refused.
        for text in (QUARTERS, PINWHEEL, "a a b f\nd e b g\nd c c h\ni j k k\n"):
            self.not_taken(text, [], [5], paper(0), [GREATEST])

    def test_every_byte_at_every_place(self):
        for good, row in ((b"abcd\n", falling(0, paper(2, 3), paper(0, 1))), (b"a/b\n", rising(1, paper(0), paper(1)))):
            for place, byte in itertools.product(range(len(good)), range(256)):
                text = list(good)
                text[place] = byte
                self.assertEqual(take(text, row)[0], 0 if reference.is_block(text) else -6, bytes(text))


class AgainstTheWords(unittest.TestCase):
    """The answers beside those of the slow reading."""

    def hold(self, text, source):
        given = listed(text)
        everything, sides = slowly_read(text)
        counts = []
        for row in self.rows_to_try(given, sides, everything, source):
            counts.append(reference.taken(sides, everything, row))
            self.assertEqual(take(given, row), [0, 1 if counts[-1] else 0, counts[-1]], (text, row))
        if len(everything) < 5:
            for one in reference.all_sheets(sides, everything):
                row = reference.row_of(one)
                self.assertEqual(take(given, row), [0, 1, reference.papers_in(one)], (text, row))
        return counts

    def rows_to_try(self, given, sides, everything, source):
        """Rows of sheets, where there are some, and rows that are nearly such."""
        bases = [paper(*everything), sheets(given)[1:]]
        for count in range(3):
            some = reference.some_sheets(sides, everything, source)
            if some:
                bases.append(reference.row_of(some))
        rows = list(bases)
        for base in bases:
            for count in range(6 if base else 0):
                rows.append(changed_a_little(base, source))
        return rows

    def test_every_square(self):
        source = reference.numbers_from(41)
        for letters in itertools.product("abcd", repeat=4):
            self.hold("".join(letters) + "\n", source)

    def test_every_pair_of_cut_squares(self):
        source = reference.numbers_from(43)
        squares = ["a", "b", "c", "a/b", "b/a", "a\\b", "b\\a", "b/c", "c\\a", "abcd", "bcab"]
        for one, other in itertools.product(squares, repeat=2):
            self.hold(one + " " + other + "\n", source)
            self.hold(one + "\n" + other + "\n", source)

    def test_many_tops(self):
        source = reference.numbers_from(47)
        counts = [count for text in many_tops(53) for count in self.hold(text, source)]
        # Rows of all kinds are tried: such as are not taken, and such as are, with few papers and with many.
        for papers in range(8):
            self.assertGreater(counts.count(papers), 20, papers)

    def test_tops_of_many_patches(self):
        source = reference.numbers_from(59)
        counts = [count for top in range(12) for count in self.hold(reference.cut_top(source, 6, 6, 36), source)]
        self.assertGreater(max(counts), 10)
        for count in range(6):
            text = reference.made_text(source, 4, 4, "abcdefghijklmnopqrstuvwxyz")
            self.assertGreater(len(slowly_read(text)[0]), 10)
            self.hold(text, source)


def changed_a_little(row, source):
    """A row with a number less, one more, one changed, or two changed about."""
    changed = list(row)
    place, other = next(source) % len(row), next(source) % len(row)
    number = (next(source) % 8, row[other], 58 + next(source) % 18, GREATEST)[next(source) % 4]
    change = next(source) % 5
    if change == 0:
        changed.pop(place)
    elif change == 1:
        changed.insert(place, number)
    elif change == 2:
        changed[place] = number
    else:
        changed[place], changed[other] = row[other], row[place]
    return changed


if __name__ == "__main__":
    unittest.main()
