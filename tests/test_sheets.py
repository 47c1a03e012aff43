"""Tests of fewest and sheets: ordinary tops, the edges that the document names, and wrong inputs."""

import contextlib
import inspect
import io
import itertools
import sys
import time
import unittest

import reference
from paperpiecing.papers import can, fewest, order, sheets
from reference import LOG_CABIN, MANY_PAPERS, PINWHEEL, SLOW_TOPS
from reference import falling, level, listed, many_tops, paper, rising, slowly_read, upright


class Case(reference.Case):
    def told(self, text, papers, row):
        self.hold(fewest, [0, papers], listed(text))
        self.hold(sheets, [0, *row], listed(text))
        # What is written here must be what the slow reading tells as well.
        everything, sides = slowly_read(text)
        slow = reference.told_sheets(sides, everything, {})
        self.assertEqual((papers, row), (reference.papers_in(slow), reference.row_of(slow)), text)

    def refused(self, text, number):
        self.hold(fewest, [number], listed(text))
        self.hold(sheets, [number], listed(text))


class OnePaper(Case):
    def test_numbers_themselves(self):
        self.hold(sheets, [0, 5, 1, 0], listed("a\n"))
        self.hold(sheets, [0, 5, 2, 0, 1], listed("a b\n"))
        self.hold(sheets, [0, 5, 5, 2, 4, 3, 1, 0], listed(LOG_CABIN))

    def test_the_told_order(self):
        self.told("a b c d e f\n", 1, paper(0, 1, 2, 3, 4, 5))
        self.told("aabc\n", 1, paper(1, 2, 0))
        self.told("abbc\n", 1, paper(0, 2, 1))
        self.told("a a\\b\n", 1, paper(0, 2, 1))
        self.told("a a\nb b\nc d\n", 1, paper(2, 3, 1, 0))
        self.told("b/a a b\\a\na a a\na\\b a a/b\n", 1, paper(0, 1, 2, 3, 4))

    def test_a_single_patch(self):
        for text in ("a\n", "aaaa\n", "a/a\n", "a\\a\n", "a a\na a\n", "a a a a a a\n" * 6):
            self.told(text, 1, paper(0))


class SeveralPapers(Case):
    def test_numbers_themselves(self):
        self.hold(sheets, [0, 0, 65, 5, 2, 0, 2, 5, 2, 1, 3], listed("a b\nc d\n"))
        self.hold(sheets, [0, 2, 64, 5, 2, 2, 3, 5, 2, 0, 1], listed("abcd\n"))

    def test_two(self):
        self.told("a b\nc d\n", 2, upright(1, paper(0, 2), paper(1, 3)))
        self.told("a b\nb a\n", 2, upright(1, paper(0, 2), paper(1, 3)))
        self.told("abab\n", 2, falling(0, paper(2, 3), paper(0, 1)))
        self.told("a b\nc d\ne f\n", 2, upright(1, paper(0, 2, 4), paper(1, 3, 5)))
        self.told("a b c\nd e f\n", 2, level(1, paper(0, 1, 2), paper(3, 4, 5)))
        # One patch more, which goes on either paper of the four quarters.
        self.told("abcd e\n", 2, falling(0, paper(2, 3), paper(0, 1, 4)))
        self.told("abcd\ne\n", 2, falling(0, paper(2, 3, 4), paper(0, 1)))
        self.told("e\nabcd\n", 2, falling(-1, paper(3, 4), paper(0, 1, 2)))

    def test_each_paper_has_its_told_order(self):
        # Of the lower paper the one that reaches over both others must be last, though it is not the greatest.
        self.told("a j\nc c\nb i\n", 2, level(1, paper(0, 1), paper(3, 4, 2)))
        self.told("abcd efgh\n", 3, falling(0, paper(2, 3), falling(1, paper(0, 1, 7, 6), paper(4, 5))))

    def test_three(self):
        columns = upright(1, paper(0, 3, 6), upright(2, paper(1, 4, 7), paper(2, 5, 8)))
        self.told("a b c\nd e f\ng h i\n", 3, columns)
        # What reaches over all others is a paper by itself, where the others take two.
        self.told("a b e\nc d e\nf f f\n", 3, level(2, upright(1, paper(0, 3), paper(1, 4, 2)), paper(5)))
        self.told("e e e\nf a b\nf c d\n", 3, level(1, paper(0), upright(2, paper(2, 4, 1), paper(3, 5))))

    def test_more(self):
        lower = falling(1, paper(6, 9), paper(7, 8))
        upper = falling(2, paper(1, 5, 4), paper(2, 3))
        self.told("k l afdb\nk b afdb\n", 5, upright(1, paper(0), level(1, upper, lower)))
        squares = level(2, paper(2, 3), falling(-1, paper(5, 8), paper(6, 7)))
        middle = upright(2, squares, paper(4))
        self.told("t k k\nk f b\nb lkdb b\ni i i\n", 6, level(1, paper(0, 1), level(3, middle, paper(9))))

    def test_seams_of_each_direction(self):
        self.told("c c b\ne e c\n", 2, upright(2, paper(0, 2), paper(1, 3)))
        self.told("a a/c\ne j\n", 2, level(1, paper(0, 1), paper(2, 3)))
        self.told("g ahbg\n", 2, falling(1, paper(0, 3), paper(1, 2)))
        self.told("d j/b\nd/e e\n", 2, rising(2, paper(0, 1), paper(2, 3)))

    def test_lines_below_nought(self):
        for rows in range(1, 6):
            row = falling(-rows, paper(3, 4), paper(0, 1, 2))
            self.told("a\n" * rows + "bcde\n", 2, row)
            self.hold(sheets, [0, 2, 64 - rows] + row[2:], listed("a\n" * rows + "bcde\n"))

    def test_outermost_lines(self):
        plain = "a a a a a "
        self.told(plain + "bcde\n" + "f f f f f f\n" * 5, 2, falling(5, paper(0, 4, 3, 5), paper(1, 2)))
        self.told("a a a a a a\n" * 5 + "bcde f f f f f\n", 2, falling(-5, paper(3, 4), paper(1, 2, 5, 0)))
        self.told("a a a a a a\n" * 5 + "f f f f f bcde\n", 2, rising(11, paper(1, 5, 2, 0), paper(3, 4)))
        self.told("bcde f f f f f\n" + "a a a a a a\n" * 5, 2, rising(1, paper(0, 3), paper(1, 2, 4, 5)))


class NoStraightSeams(Case):
    def test_no_line_parts_them(self):
        for text in (PINWHEEL, "a a\na b\n", "abbb\n", "aaba\n", "a a a\na b a\na a a\n", "a a b\nb a a\n"):
            self.refused(text, -5)

    def test_only_a_side_can_not_be_sewn(self):
        # Each direction, with what can't be sewn behind the line and before it.
        self.refused("o baaa\n", -5)
        self.refused("aada b\n", -5)
        self.refused("b\nabaa\n", -5)
        self.refused("gccc\na\n", -5)
        self.refused("b\\c ebbb\n", -5)
        self.refused("b\\a\naccc\n", -5)
        self.refused("b/a aaba\n", -5)
        self.refused("baaa\na/b\n", -5)
        self.refused("s s s\n" + PINWHEEL, -5)
        self.refused(PINWHEEL + "s s s\n", -5)

    def test_only_a_side_of_a_side_can_not_be_sewn(self):
        self.refused("s s s\nt t t\n" + PINWHEEL, -5)
        self.refused("a b abbb\na b c\n", -5)
        # The four quarters take two papers, the other four can't be sewn.
        self.refused("abcd e fggg h\n", -5)


class TheFirstLine(Case):
    """Of the lines that take the fewest papers the first is told, by its direction and then by its at."""

    def test_same_direction(self):
        self.told("g a l\nf a j\n", 2, upright(1, paper(0, 3), paper(2, 4, 1)))
        self.told("a j\nc c\nb i\n", 2, level(1, paper(0, 1), paper(3, 4, 2)))
        self.told("a\njeaa\naabj\n", 2, falling(-2, paper(4, 5), paper(0, 1, 2, 3)))
        self.told("bccg cbfc\n", 2, rising(1, paper(0, 2), paper(3, 4, 1)))

    def test_other_directions(self):
        self.told("a c\nb e\n", 2, upright(1, paper(0, 2), paper(1, 3)))
        self.told("b\\a a\na a\\h\n", 2, upright(1, paper(0, 1), paper(2, 3)))
        self.told("c b/c\nc/b c\n", 2, upright(1, paper(0, 3), paper(1, 2)))
        self.told("b\\a b\nb a\\b\n", 2, level(1, paper(0, 1), paper(2, 3)))
        self.told("d d/t t\nc/b b b\n", 2, level(1, paper(0, 1), paper(2, 3)))
        self.told("afdc\n", 2, falling(0, paper(2, 3), paper(0, 1)))

    def test_a_line_ahead_of_it_takes_more(self):
        # The lines ahead of the told one: upright at 1; level at 1; falling at -1; rising at 1.
        self.told("a b d\na d a\n", 2, upright(2, paper(1, 3, 0), paper(2, 4)))
        self.told("d d\nk b\nf a\n", 2, level(2, paper(1, 2, 0), paper(3, 4)))
        self.told("rcba\nb\\g\n", 2, falling(0, paper(2, 3, 4), paper(0, 1)))
        self.told("i/a a/b\nd/c b\n", 2, rising(2, paper(0, 1, 3), paper(2, 4)))
        # Lines of a direction ahead of it.
        self.told("a c e\nf b c\n", 2, level(1, paper(0, 1, 2), paper(3, 4, 5)))
        self.told("daba d\n", 2, falling(0, paper(2, 3), paper(0, 1, 4)))
        self.told("gaba a\nd d\n", 2, rising(1, paper(0, 3), paper(1, 2, 4)))

    def test_fewer_papers_before_it_alone(self):
        # Upright at 1 takes 1 and 3, the told one 2 and 1.
        told = upright(2, rising(3, paper(1, 5, 0), paper(3, 4)), paper(2, 6))
        self.told("a b a\na babd d\\d\n", 3, told)
        # A line behind the told one takes 1 and 2, the told one 2 and 1.
        self.told("e a\nesec d\n", 3, upright(1, falling(-1, paper(3, 4), paper(0, 2)), paper(1, 5)))
        self.told("bcnc c\nc j\n", 3, level(1, falling(0, paper(2, 3), paper(0, 1)), paper(4, 5)))

    def test_fewer_papers_behind_it_alone(self):
        # Level at 3 takes 3 and 1, the told one 1 and 2.
        told = falling(-1, paper(5, 6, 3), upright(1, paper(0, 2), paper(1, 4)))
        self.told("b a\nd\\a a\\e\na e\\a\ne c\n", 3, told)
        # A line behind the told one takes 2 and 1, the told one 1 and 2.
        self.told("e d\nc dhbe\n", 3, upright(1, paper(0, 2), falling(0, paper(4, 5), paper(1, 3))))

    def test_on_both_sides_likewise(self):
        # On both sides a falling line takes as few as a rising one.
        upper = falling(1, paper(0, 4, 3), paper(1, 2))
        lower = falling(0, paper(5, 8), paper(6, 7))
        self.told("d jldh\nh jldh\n", 4, level(1, upper, lower))
        # Within the rest the lines are chosen as in the whole.
        rest = level(2, paper(2, 3), level(4, paper(5, 6, 4), paper(7, 8)))
        self.told("a b\nd e\nz z\ng h\nj k\n", 4, level(1, paper(0, 1), rest))


class Edges(Case):
    TEN_ON_ONE = "a a a a a a\nb b b b b b\nc c c c c c\nd d d d d d\ne e e e e e\nf g h i j j\n"
    ELEVEN_ON_ONE = "a a a a a a\nb b b b b b\nc c c c c c\nd d d d d d\ne e e e e e\nf g h i j k\n"
    TEN_ON_TWO = "a b c d e f\ng h i j j j\n"
    ELEVEN_ON_TWO = "a b c d e f\ng h i j k k\n"
    TEN_NOT_SEWN = "a a b f\nd e b g\nd c c h\ni j j j\n"
    ELEVEN_NOT_SEWN = "a a b f\nd e b g\nd c c h\ni j k k\n"

    def test_so_many_patches(self):
        for text in (self.TEN_ON_ONE, self.TEN_ON_TWO, self.TEN_NOT_SEWN):
            self.assertEqual(len(reference.patches_of(listed(text))), 10)
        for text in (self.ELEVEN_ON_ONE, self.ELEVEN_ON_TWO, self.ELEVEN_NOT_SEWN):
            self.assertEqual(len(reference.patches_of(listed(text))), 11)

    def test_ten_patches(self):
        self.told(self.TEN_ON_ONE, 1, paper(5, 6, 7, 8, 9, 4, 3, 2, 1, 0))
        self.told(self.TEN_ON_TWO, 2, level(1, paper(0, 1, 2, 3, 4, 5), paper(6, 7, 8, 9)))
        self.refused(self.TEN_NOT_SEWN, -5)

    def test_eleven_patches(self):
        self.assertEqual(order(listed(self.ELEVEN_ON_ONE)), [0, 5, 6, 7, 8, 9, 10, 4, 3, 2, 1, 0])
        self.refused(self.ELEVEN_ON_ONE, -8)
        self.refused(self.ELEVEN_ON_TWO, -8)
        self.refused(self.ELEVEN_NOT_SEWN, -8)

    def test_many_patches(self):
        self.refused("abcd efgh abcd efgh abcd efgh\nijkl mnop ijkl mnop ijkl mnop\n" * 3, -8)
        self.refused("abcd abcd abcd\n", -8)

    def test_few_letters_and_many_patches(self):
        # Patches count, not letters.
        self.refused("a b a b a b\nb a b a b a\n", -8)
        self.told("a b a b a\nb a b a b\n", 2, level(1, paper(0, 1, 2, 3, 4), paper(5, 6, 7, 8, 9)))

    def test_every_size(self):
        for wide, high in itertools.product(range(1, 7), repeat=2):
            self.told((" ".join("a" * wide) + "\n") * high, 1, paper(0))
            self.told((" ".join("abcdef"[:wide]) + "\n") * high, 1, paper(*range(wide)))
            level_strips = "".join(" ".join(letter * wide) + "\n" for letter in "abcdef"[:high])
            self.told(level_strips, 1, paper(*range(high)))

    def test_every_size_on_two_papers(self):
        # Four patches round the middle of the upper left four squares, drawn out to the right and downward.
        for wide, high in itertools.product(range(2, 7), repeat=2):
            rest = wide - 1
            text = "a" + " b" * rest + "\n" + ("c" + " d" * rest + "\n") * (high - 1)
            self.told(text, 2, upright(1, paper(0, 2), paper(1, 3)))

    def test_a_call_by_itself(self):
        # What was answered before, or was done to an answer, changes no answer.
        text = listed("a b\nc d\n")
        answer = sheets(text)
        answer.append(7)
        counted = fewest(text)
        counted[1] = 7
        self.assertEqual(sheets(listed(PINWHEEL)), [-5])
        self.assertEqual(fewest(listed(self.ELEVEN_ON_ONE)), [-8])
        self.assertEqual(fewest([]), [-6])
        self.assertEqual(sheets(text), [0, 0, 65, 5, 2, 0, 2, 5, 2, 1, 3])
        self.assertEqual(fewest(text), [0, 2])

    def test_nothing_is_printed(self):
        out = io.StringIO()
        with contextlib.redirect_stdout(out), contextlib.redirect_stderr(out):
            for text in (b"a b\n", b"abcd\n", b"abbb\n", b"abcd abcd abcd\n", b"", b"a" * 2000):
                fewest(list(text))
                sheets(list(text))
        self.assertEqual(out.getvalue(), "")

    def test_loops_not_nested_calls(self):
        texts = [listed(text) for text in SLOW_TOPS] + [[97] * 20000, [10] * 20000]
        expected = [(fewest(text), sheets(text)) for text in texts]
        limit = sys.getrecursionlimit()
        sys.setrecursionlimit(len(inspect.stack()) + 30)
        try:
            answers = [(fewest(text), sheets(text)) for text in texts]
        finally:
            sys.setrecursionlimit(limit)
        self.assertEqual(answers, expected)
        self.assertEqual(answers[-2:], [([-2], [-2])] * 2)

    def test_the_time_is_bounded(self):
        # They take some thousandths of a second: the bound leaves room for a slow machine.
        for text in SLOW_TOPS:
            given = listed(text)
            self.assertEqual(len(reference.patches_of(given)), 10, text)
            for call in (fewest, sheets):
                start = time.process_time()
                call(given)
                self.assertLess(time.process_time() - start, 1, (call.__name__, text))


class WrongTexts(Case):
    def test_no_bytes(self):
        self.refused("", -6)

    def test_length(self):
        for filler in ("a", "a ", "\n", "a\n", "a b c d e f\n", "abcd "):
            text = (filler * 20000)[:20000]
            self.refused(text[:1024], -6)
            self.refused(text[:1025], -2)
            self.refused(text, -2)

    def test_at_fault(self):
        for text in ("a", "\n", "a\n\n", "a b\nc\n", "ab\n", "a/\n", " a\n", "a \n", "a  b\n", "a\r\n", "1\n"):
            self.refused(text, -6)
        self.refused("abcde\n", -6)
        self.refused("a a a a a a a\n", -6)
        self.refused("a\n" * 7, -6)
        self.refused([255], -6)
        self.refused([0, 10], -6)

    def test_too_long_counts_first(self):
        # It would be at fault as well, and have too many patches, or no sheets.
        for text in (PINWHEEL, Edges.ELEVEN_ON_ONE, Edges.ELEVEN_NOT_SEWN, "a\n"):
            self.refused((text * 600)[:1025], -2)
            self.refused(text + "a" * 1025, -2)

    def test_fault_counts_second(self):
        for text in (PINWHEEL, Edges.ELEVEN_ON_ONE, Edges.ELEVEN_NOT_SEWN, "a\n"):
            self.refused(text[:-1], -6)
            self.refused(text + "\n", -6)
            self.refused(" " + text, -6)

    def test_too_many_patches_counts_third(self):
        self.refused(Edges.ELEVEN_NOT_SEWN, -8)
        self.refused("abbb cddd abbb cddd abbb cddd\n", -8)

    def test_every_byte_at_every_place(self):
        for good in (b"abcd\n", b"a/b\n", b"a b\nc d\n"):
            for place, byte in itertools.product(range(len(good)), range(256)):
                text = list(good)
                text[place] = byte
                if not reference.is_block(text):
                    self.assertEqual((fewest(text), sheets(text)), ([-6], [-6]), bytes(text))
                else:
                    self.assertIn(fewest(text)[0], (0, -5), bytes(text))
                    self.assertEqual(sheets(text)[0], fewest(text)[0], bytes(text))


class AgainstTheWords(unittest.TestCase):
    """The answers beside those of the slow reading, in which all sheets are tried."""

    def hold(self, text):
        given = listed(text)
        everything, sides = slowly_read(text)
        answers = (fewest(given), sheets(given))
        if len(everything) > 10:
            self.assertEqual(answers, ([-8], [-8]), text)
            return
        told = reference.told_sheets(sides, everything, {})
        if told is None:
            self.assertEqual(answers, ([-5], [-5]), text)
        else:
            self.assertEqual(answers, ([0, reference.papers_in(told)], [0] + reference.row_of(told)), text)
            self.assertEqual(reference.read_sheets(answers[1][1:]), (told, []), text)
        if len(everything) < 6:
            self.hold_against_all(text, answers, reference.all_sheets(sides, everything))

    def hold_against_all(self, text, answers, found):
        if not found:
            self.assertEqual(answers, ([-5], [-5]), text)
        else:
            self.assertEqual(answers[0], [0, min(reference.papers_in(one) for one in found)], text)
            self.assertIn(answers[1][1:], [reference.row_of(one) for one in found], text)

    def test_every_square(self):
        for letters in itertools.product("abcd", repeat=4):
            self.hold("".join(letters) + "\n")

    def test_every_pair_of_cut_squares(self):
        squares = ["a", "b", "c", "a/b", "b/a", "a\\b", "b\\a", "b/c", "c\\a", "abcd", "bcab"]
        for one, other in itertools.product(squares, repeat=2):
            self.hold(one + " " + other + "\n")
            self.hold(one + "\n" + other + "\n")

    def test_every_whole_top_of_two_letters(self):
        for letters in itertools.product("ab", repeat=9):
            self.hold("".join(" ".join(letters[row:row + 3]) + "\n" for row in (0, 3, 6)))

    def test_many_tops(self):
        for text in many_tops(31):
            self.hold(text)

    def test_slow_tops(self):
        for text in SLOW_TOPS:
            self.hold(text)


class ThePromises(unittest.TestCase):
    """D2, D3 and D4, as far as these calls reach them."""

    def test_tops_of_all_kinds_are_tried(self):
        answers = [tuple(fewest(listed(text))) for text in many_tops(31)]
        for answer in ((0, 1), (0, 2), (0, 3), (0, 4), (0, 5), (0, 6), (-5,), (-8,)):
            self.assertGreater(answers.count(answer), 2, answer)

    def test_one_just_if_there_is_an_order(self):
        for text in many_tops(31):
            given = listed(text)
            if fewest(given) != [-8]:
                self.assertEqual(fewest(given) == [0, 1], can(given) == [0, 1], text)
                if can(given) == [0, 1]:
                    told = order(given)[1:]
                    self.assertEqual(sheets(given), [0, 5, len(told)] + told, text)

    def test_the_told_sheets_are_sheets_of_the_fewest_papers(self):
        for text in many_tops(31):
            given = listed(text)
            answer = sheets(given)
            self.assertEqual(fewest(given)[0], answer[0], text)
            if answer[0] == 0:
                told, rest = reference.read_sheets(answer[1:])
                self.assertEqual(rest, [], text)
                self.assertEqual(fewest(given), [0, reference.papers_in(told)], text)
                self.assertEqual([0] + reference.row_of(told), answer, text)
                everything, sides = slowly_read(text)
                self.assertTrue(reference.are_sheets(sides, everything, told), text)

    def test_the_fewest_are_as_many_whichever_way_the_top_lies(self):
        for text in itertools.chain(MANY_PAPERS, SLOW_TOPS, (LOG_CABIN, PINWHEEL, "abbb\n", "a b\nc d\n")):
            answer = fewest(listed(text))
            for way in reference.all_ways_round(text):
                self.assertEqual(fewest(listed(way)), answer, way)

    def test_some_just_if_straight_seams_lead_to_single_patches(self):
        for text in many_tops(31):
            everything, sides = slowly_read(text)
            if len(everything) <= 10:
                answer = 0 if sewn_by_straight_seams(sides, everything) else -5
                self.assertEqual(fewest(listed(text))[0], answer, text)


def sewn_by_straight_seams(sides, left):
    """Whether lines part the patches again and again until each is alone; any line will do to begin with."""
    if len(left) == 1:
        return True
    seams = reference.seams_of(sides, left)
    return bool(seams) and all(sewn_by_straight_seams(sides, side) for side in seams[0][1])


if __name__ == "__main__":
    unittest.main()
