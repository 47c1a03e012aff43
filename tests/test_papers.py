"""Tests of can and order: ordinary tops, the edges that the document names, and wrong inputs."""

import contextlib
import inspect
import io
import itertools
import string
import sys
import unittest

import reference
from paperpiecing.papers import can, order

NOT_ON_ONE = [0, 0], [-5]
TOO_LONG = [-2], [-2]
AT_FAULT = [-6], [-6]


def on_one(*told):
    return [0, 1], [0, *told]


class Case(unittest.TestCase):
    def both(self, text, expected):
        """Hold both calls against what is expected, and the list against what it was."""
        given = list(text.encode("ascii") if isinstance(text, str) else text)
        kept = list(given)
        with self.subTest(text=text if len(text) < 200 else text[:200]):
            for call, answer in zip((can, order), expected):
                for time in range(2):
                    got = call(given)
                    self.assertEqual(got, answer)
                    self.assertIs(type(got), list)
                    self.assertEqual({type(number) for number in got}, {int})
                    self.assertEqual(given, kept)


class OrdinaryTops(Case):
    def test_one_letter(self):
        self.both("a\n", on_one(0))
        self.both("a b\n", on_one(0, 1))
        self.both("a\nb\n", on_one(0, 1))

    def test_square_cut_by_a_slash(self):
        self.both("a/b\n", on_one(0, 1))
        # Only b is at the right side, and only b at the lower one.
        self.both("a/b b\n", on_one(0, 1))
        self.both("a/b a\n", on_one(0, 1, 2))
        self.both("a/b\nb\n", on_one(0, 1))
        self.both("a/b\na\n", on_one(0, 1, 2))
        # Only a is at the left side, and only a at the upper one.
        self.both("a a/b\n", on_one(0, 1))
        self.both("b a/b\n", on_one(0, 1, 2))
        self.both("a\na/b\n", on_one(0, 1))
        self.both("b\na/b\n", on_one(0, 1, 2))

    def test_square_cut_by_a_backslash(self):
        self.both("a\\b\n", on_one(0, 1))
        self.both("a\\b a\n", on_one(0, 1))
        self.both("a\\b b\n", on_one(0, 1, 2))
        self.both("a\\b\nb\n", on_one(0, 1))
        self.both("a\\b\na\n", on_one(0, 1, 2))
        self.both("b a\\b\n", on_one(0, 1))
        self.both("a a\\b\n", on_one(0, 2, 1))
        self.both("a\na\\b\n", on_one(0, 1))
        self.both("b\na\\b\n", on_one(0, 1, 2))

    def test_four_letters(self):
        self.both("abcd\n", NOT_ON_ONE)
        self.both("aaaa\n", on_one(0))
        # Three patches, of which the one of two quarters must be put on last.
        self.both("aabc\n", on_one(1, 2, 0))
        self.both("abbc\n", on_one(0, 2, 1))
        self.both("abcc\n", on_one(0, 1, 2))
        self.both("abca\n", on_one(1, 2, 0))
        # Three quarters are one patch that bends round the fourth.
        self.both("abbb\n", NOT_ON_ONE)

    def test_same_letter_on_both_sides_of_a_cut(self):
        self.both("a/a\n", on_one(0))
        self.both("a\\a\n", on_one(0))

    def test_patches_over_several_squares(self):
        # A log cabin: each strip lies along all that is within.
        self.both("a b b\na c d\na e d\n", on_one(2, 4, 3, 1, 0))
        # A pinwheel: each strip is stopped by the next one.
        self.both("a a b\nd e b\nd c c\n", NOT_ON_ONE)
        # One patch that bends, so that no line parts it from the other.
        self.both("a a\na b\n", NOT_ON_ONE)
        # A patch round another one.
        self.both("a a a\na b a\na a a\n", NOT_ON_ONE)
        # A great triangle over four squares, with its two halves' seam through them.
        self.both("a a/b\na/b b\n", on_one(0, 1))
        self.both("b\\a b\na b\\a\n", on_one(0, 1))

    def test_same_letter_in_patches_apart(self):
        self.both("a b a\n", on_one(0, 1, 2))
        self.both("a\nb\na\n", on_one(0, 1, 2))
        # They touch at a corner only.
        self.both("a b\nb a\n", NOT_ON_ONE)
        self.both("abab\n", NOT_ON_ONE)

    def test_a_rows_end_is_no_neighbour_of_the_next_rows_start(self):
        self.both("a b\nb c\n", NOT_ON_ONE)
        self.both("a a b\nb a a\n", NOT_ON_ONE)

    def test_small_and_capital_letters(self):
        self.both("a A\n", on_one(0, 1))
        self.both("a/A\n", on_one(0, 1))
        self.both("aaAA\n", on_one(0, 1))
        self.both("A A\n", on_one(0))

    def test_every_letter(self):
        for letter in string.ascii_letters:
            self.both(letter + "\n", on_one(0))
            self.both(letter * 4 + " " + letter + "/" + letter + "\n", on_one(0))

    def test_lines_of_each_direction(self):
        # Each time just one kind of line parts the two patches.
        self.both("a b\na b\n", on_one(0, 1))
        self.both("a a\nb b\n", on_one(0, 1))
        self.both("a\\b a\nb a\\b\n", on_one(0, 1))
        self.both("a a/b\na/b b\n", on_one(0, 1))

    def test_lines_below_nought(self):
        # The falling line at -1 parts the lowest corner from the rest.
        self.both("a a\na\\b a\n", on_one(0, 1))
        self.both("a\na\na\\b\n", on_one(0, 1))


class Edges(Case):
    def test_one_square_each_way(self):
        self.both("q\n", on_one(0))

    def test_six_squares_each_way(self):
        self.both("a b c d e f\n", on_one(0, 1, 2, 3, 4, 5))
        self.both("a\nb\nc\nd\ne\nf\n", on_one(0, 1, 2, 3, 4, 5))
        self.both("a a a a a a\n" * 6, on_one(0))
        self.both("a b c d e f\n" * 6, on_one(0, 1, 2, 3, 4, 5))
        self.both("".join(" ".join(letter * 6) + "\n" for letter in "abcdef"), on_one(0, 1, 2, 3, 4, 5))

    def test_longest_text(self):
        text = " ".join(["abcd"] * 6) + "\n"
        self.assertEqual(len(text * 6), 180)
        self.both(text * 6, NOT_ON_ONE)

    def test_every_size(self):
        for wide, high in itertools.product(range(1, 7), repeat=2):
            self.both((" ".join("a" * wide) + "\n") * high, on_one(0))
            self.both((" ".join("abcdef"[:wide]) + "\n") * high, on_one(*range(wide)))

    def test_told_order_takes_the_greatest(self):
        # Both ends may be last each time.
        self.both("a b c\n", on_one(0, 1, 2))
        self.both("a\nb\nc\nd\n", on_one(0, 1, 2, 3))
        # First only 0 may be last, then 1, and 2 and 3 at the end.
        self.both("a a\nb b\nc d\n", on_one(2, 3, 1, 0))
        # All four corners of an octagon may be last, and at the end either of two.
        self.both("b/a a b\\a\na a a\na\\b a a/b\n", on_one(0, 1, 2, 3, 4))
        # At first 0 and 1 may be last, but not 2.
        self.both("a a\\b\n", on_one(0, 2, 1))

    def test_a_call_by_itself(self):
        # What was answered before, or was done to an answer, changes no answer.
        first = list(b"a b c\n")
        answer = order(first)
        answer.append(7)
        self.assertEqual(order(list(b"abcd\n")), [-5])
        self.assertEqual(order(list(b"\n")), [-6])
        self.assertEqual(order(first), [0, 0, 1, 2])
        self.assertEqual(can(first), [0, 1])

    def test_nothing_is_printed(self):
        out = io.StringIO()
        with contextlib.redirect_stdout(out), contextlib.redirect_stderr(out):
            for text in (b"a b\n", b"abcd\n", b"", b"a" * 2000):
                can(list(text))
                order(list(text))
        self.assertEqual(out.getvalue(), "")

    def test_loops_not_nested_calls(self):
        texts = [b"a a a a a a\n" * 6, b"abcd abcd abcd abcd abcd abcd\n" * 6, b"a " * 10000, b"\n" * 20000]
        limit = sys.getrecursionlimit()
        sys.setrecursionlimit(len(inspect.stack()) + 30)
        try:
            answers = [(can(list(text)), order(list(text))) for text in texts]
        finally:
            sys.setrecursionlimit(limit)
        self.assertEqual(answers, [on_one(0), NOT_ON_ONE, TOO_LONG, TOO_LONG])


class WrongTexts(Case):
    def test_no_bytes(self):
        self.both("", AT_FAULT)

    def test_length(self):
        for filler in ("a", "a ", "\n", "a\n", "a a a a a a\n"):
            text = (filler * 20000)[:20000]
            self.both(text[:1023], AT_FAULT)
            self.both(text[:1024], AT_FAULT)
            self.both(text[:1025], TOO_LONG)
            self.both(text, TOO_LONG)

    def test_too_long_counts_before_the_fault(self):
        self.both([0] * 1024, AT_FAULT)
        self.both([0] * 1025, TOO_LONG)
        self.both(list(b"a\n") + [255] * 1023, TOO_LONG)

    def test_fault_counts_before_there_is_no_order(self):
        self.both("abcd\n", NOT_ON_ONE)
        self.both("abcd", AT_FAULT)
        self.both("abcd\n\n", AT_FAULT)

    def test_rows_end_missing(self):
        self.both("a", AT_FAULT)
        self.both("a b\nc d", AT_FAULT)
        self.both("a\n" * 6 + "a", AT_FAULT)

    def test_empty_rows(self):
        self.both("\n", AT_FAULT)
        self.both("\na\n", AT_FAULT)
        self.both("a\n\n", AT_FAULT)
        self.both("a\n\na\n", AT_FAULT)

    def test_rows_of_other_lengths(self):
        self.both("a b\nc\n", AT_FAULT)
        self.both("a\nb c\n", AT_FAULT)
        self.both("a b\nc d\ne\n", AT_FAULT)
        self.both("a b\nc d e\nf g\n", AT_FAULT)

    def test_seventh_square(self):
        self.both("a a a a a a\n", on_one(0))
        self.both("a a a a a a a\n", AT_FAULT)
        self.both("a a a a a a a\n" * 7, AT_FAULT)

    def test_seventh_row(self):
        self.both("a\n" * 6, on_one(0))
        self.both("a\n" * 7, AT_FAULT)
        self.both("a b\n" * 7, AT_FAULT)

    def test_blanks(self):
        for text in (" a\n", "a \n", "a  b\n", " \n", "a b \n", "a\n \n", "a\n b\n", "a \nb \n", "a\n "):
            self.both(text, AT_FAULT)

    def test_other_row_ends(self):
        for text in ("a\r\n", "a\r", "a\tb\n", "a\n\r"):
            self.both(text, AT_FAULT)

    def test_squares_of_other_lengths(self):
        for text in ("ab\n", "abc\n", "abcde\n", "abcdabcd\n", "a/\n", "/b\n", "/\n", "a\\\n", "\\\n"):
            self.both(text, AT_FAULT)
        for text in ("a//b\n", "a/b/c\n", "a/bc\n", "ab/c\n", "a\\bc\n", "a\\/b\n", "a/b\\c\n", "///\n", "a//\n"):
            self.both(text, AT_FAULT)

    def test_every_byte_at_every_place(self):
        for good in (b"a\n", b"a/b\n", b"a\\b\n", b"abcd\n", b"a b\nc d\n"):
            for place, byte in itertools.product(range(len(good)), range(256)):
                text = list(good)
                text[place] = byte
                if not reference.is_block(text):
                    self.assertEqual((can(text), order(text)), AT_FAULT, bytes(text))
                else:
                    self.assertEqual(can(text)[0], 0, bytes(text))

    def test_every_short_text(self):
        # All texts of up to five bytes, of one byte from each kind that a text may have.
        for count in range(6):
            for text in itertools.product(b"aB /\\\n0", repeat=count):
                self.assertEqual(can(list(text))[0], 0 if reference.is_block(text) else -6, bytes(text))

    def test_changed_texts(self):
        source = reference.numbers_from(11)
        for count in range(1500):
            text = list(reference.made_text(source, 1 + next(source) % 6, 1 + next(source) % 6, "abC").encode("ascii"))
            place = next(source) % len(text)
            change = next(source) % 3
            if change == 0:
                text.pop(place)
            elif change == 1:
                text.insert(place, b"a /\\\n"[next(source) % 5])
            else:
                text[place] = b"a /\\\n"[next(source) % 5]
            self.assertEqual(can(text)[0], 0 if reference.is_block(text) else -6, bytes(text))


class AgainstTheWords(unittest.TestCase):
    """The answers beside those of the slow reading, in which all orders are tried."""

    def hold(self, text):
        given = list(text.encode("ascii"))
        patches = reference.patches_of(given)
        sides = reference.sides_of(patches)
        everything = tuple(range(len(patches)))
        told = reference.told_order(sides, everything)
        if len(patches) < 8:
            orders = reference.orders_of(sides, everything)
            # Whichever patches are taken off, one is stuck or none is.
            self.assertEqual(told is not None, orders != [], text)
            self.assertEqual(can(given), [0, 1 if orders else 0], text)
            if orders:
                self.assertIn(order(given)[1:], orders, text)
        self.assertEqual((can(given), order(given)), on_one(*told) if told else NOT_ON_ONE, text)

    def test_every_square(self):
        for letters in itertools.product("abcd", repeat=4):
            self.hold("".join(letters) + "\n")

    def test_every_pair_of_cut_squares(self):
        squares = ["a", "b", "c", "a/b", "b/a", "a\\b", "b\\a", "b/c", "c\\a"]
        for one, other in itertools.product(squares, repeat=2):
            self.hold(one + " " + other + "\n")
            self.hold(one + "\n" + other + "\n")

    def test_every_whole_top_of_two_letters(self):
        for letters in itertools.product("ab", repeat=9):
            self.hold("".join(" ".join(letters[row:row + 3]) + "\n" for row in (0, 3, 6)))

    def test_many_tops(self):
        source = reference.numbers_from(5)
        for count in range(300):
            wide, high = 1 + next(source) % 3, 1 + next(source) % 3
            self.hold(reference.made_text(source, wide, high, "abcde"[:2 + next(source) % 4]))

    def test_tops_that_are_sewn(self):
        # Strips along the sides of what is left, which always go on one paper.
        source = reference.numbers_from(3)
        for count in range(60):
            text, strips = reference.sewn_top(source, 1 + next(source) % 6, 1 + next(source) % 6)
            self.assertEqual(can(list(text.encode("ascii"))), [0, 1], text)
            self.assertEqual(sorted(order(list(text.encode("ascii")))[1:]), list(range(strips)), text)
            self.hold(text)


if __name__ == "__main__":
    unittest.main()
