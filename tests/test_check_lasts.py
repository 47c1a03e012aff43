"""Tests of check and lasts: ordinary tops, the edges that the document names, and wrong inputs."""

import contextlib
import inspect
import io
import itertools
import sys
import unittest

import reference
from paperpiecing.papers import can, check, lasts, order
from reference import GREATEST, LOG_CABIN, PINWHEEL, listed

OCTAGON = "b/a a b\\a\na a a\na\\b a a/b\n"


def exchanged(row, one, other):
    """The row with two of its numbers changed about."""
    changed = list(row)
    changed[one], changed[other] = row[other], row[one]
    return changed


class Case(reference.Case):
    def lasts_are(self, text, *patches):
        self.hold(lasts, [0, *patches], listed(text))

    def orders(self, text, *rows):
        for row in rows:
            self.hold(check, [0, 1], listed(text), list(row))

    def no_orders(self, text, *rows):
        for row in rows:
            self.hold(check, [0, 0], listed(text), list(row))

    def orders_alone(self, text, total, *rows):
        """Of all rows of the patches, each once, these are orders and no others."""
        for row in itertools.permutations(range(total)):
            self.hold(check, [0, 1 if list(row) in rows else 0], listed(text), list(row))

    def refused(self, text, number):
        """Both calls refuse the text, whatever the row is."""
        self.hold(lasts, [number], listed(text))
        for row in ([], [0], [0, 1], [1, 0], [0, 0], [GREATEST], [GREATEST] * 12000, list(range(12000))):
            self.hold(check, [number], listed(text), row)


class OrdinaryRows(Case):
    def test_two_patches(self):
        # Either may be first.
        for text in ("a b\n", "a\nb\n", "a/b\n", "a\\b\n", "aabb\n"):
            self.orders_alone(text, 2, [0, 1], [1, 0])

    def test_a_row_of_squares(self):
        # What is there already is always without a gap.
        for text in ("a b c\n", "a\nb\nc\n", "a b a\n"):
            self.orders_alone(text, 3, [0, 1, 2], [1, 0, 2], [1, 2, 0], [2, 1, 0])
        self.orders("a b c d e f\n", [0, 1, 2, 3, 4, 5], [5, 4, 3, 2, 1, 0], [2, 3, 1, 4, 0, 5], [3, 2, 4, 1, 5, 0])
        self.no_orders("a b c d e f\n", [0, 1, 2, 3, 5, 4], [1, 3, 2, 0, 4, 5], [2, 4, 3, 1, 0, 5])

    def test_the_told_order(self):
        for text in ("a a\nb b\nc d\n", "aabc\n", "abcc\n", LOG_CABIN, OCTAGON, "a a\\b\n", "a b c d e f\n" * 6):
            self.orders(text, order(listed(text))[1:])

    def test_the_told_order_backwards(self):
        # 2 4 3 1 0 is told: what lies within is never last.
        self.no_orders(LOG_CABIN, [0, 1, 3, 4, 2])
        self.no_orders("aabc\n", [0, 2, 1])
        self.no_orders("a a\nb b\nc d\n", [0, 1, 3, 2])
        # The octagon's middle can't be put on last.
        self.no_orders(OCTAGON, [4, 3, 2, 1, 0])
        # Here it goes both ways.
        self.orders("a b c\n", [2, 1, 0])

    def test_two_patches_changed_about(self):
        told = [2, 4, 3, 1, 0]
        self.assertEqual(order(listed(LOG_CABIN)), [0] + told)
        for one, other in itertools.combinations(range(5), 2):
            # The first two lie along one line, and either may be first.
            answer = 1 if (one, other) == (0, 1) else 0
            self.hold(check, [0, answer], listed(LOG_CABIN), exchanged(told, one, other))

    def test_all_orders(self):
        self.orders_alone(LOG_CABIN, 5, [2, 4, 3, 1, 0], [4, 2, 3, 1, 0])
        self.orders_alone("aabc\n", 3, [1, 2, 0], [2, 1, 0])
        self.orders_alone("abcc\n", 3, [0, 1, 2], [1, 0, 2])
        self.orders_alone("a a\nb b\nc d\n", 4, [2, 3, 1, 0], [3, 2, 1, 0])

    def test_octagon(self):
        # Two corners are never there without the middle; else they come as they like.
        middle_early = [row for row in itertools.permutations(range(5)) if row.index(1) < 2]
        self.orders_alone(OCTAGON, 5, *[list(row) for row in middle_early])

    def test_a_row_that_sticks_only_at_its_front(self):
        # 4 may be last, and when it is gone none of the four quarters may.
        self.lasts_are("abcd e\n", 4)
        self.no_orders("abcd e\n", [0, 1, 2, 3, 4], [3, 2, 1, 0, 4])


class OrdinaryLasts(Case):
    def test_several(self):
        self.lasts_are("a b\n", 0, 1)
        self.lasts_are("a\nb\n", 0, 1)
        self.lasts_are("a b c\n", 0, 2)
        self.lasts_are("a\nb\nc\nd\n", 0, 3)
        self.lasts_are("a b a\n", 0, 2)
        self.lasts_are("a/b\n", 0, 1)
        self.lasts_are("a\\b a\n", 0, 1)
        self.lasts_are("a a\\b\n", 0, 1)
        self.lasts_are("a b c d e f\n" * 6, 0, 5)
        self.lasts_are(OCTAGON, 0, 2, 3, 4)

    def test_one(self):
        self.lasts_are(LOG_CABIN, 0)
        self.lasts_are("aabc\n", 0)
        self.lasts_are("abbc\n", 1)
        self.lasts_are("abcc\n", 2)
        self.lasts_are("abca\n", 0)
        self.lasts_are("a a\nb b\nc d\n", 0)

    def test_none(self):
        for text in ("abcd\n", "abab\n", "abbb\n", PINWHEEL, "a a\na b\n", "a b\nb a\n", "a a a\na b a\na a a\n"):
            self.lasts_are(text)

    def test_several_though_there_is_no_order(self):
        self.lasts_are("e abcd f\n", 0, 5)
        self.lasts_are("abcd a\n", 4)

    def test_a_line_with_two_patches_on_each_side(self):
        # Lines part them, but none so that one is alone.
        self.lasts_are("a b\nc d\n")
        self.lasts_are("a b b\na b b\nc d d\n")


class Lines(Case):
    """Each time one line alone puts one patch alone on one side."""

    def test_upright(self):
        self.lasts_are("a b b\na c d\na e d\n", 0)
        self.lasts_are("b b a\nd c a\nd e a\n", 1)

    def test_level(self):
        self.lasts_are("a a a\nb c e\nb d d\n", 0)
        self.lasts_are("b c e\nb d d\na a a\n", 4)

    def test_falling(self):
        # Behind the line at 1, and before the line at -1.
        self.lasts_are("a b\\a\nc a\n", 1)
        self.lasts_are("a c\na\\b a\n", 2)

    def test_rising(self):
        # Before the line at 1, and behind the line at 3.
        self.lasts_are("b/a a\na c\n", 0)
        self.lasts_are("c a\na a/b\n", 2)

    def test_two_patches_by_one_line(self):
        for text in ("a b\na b\n", "a a\nb b\n", "a\\b a\nb a\\b\n", "a a/b\na/b b\n"):
            self.lasts_are(text, 0, 1)
            self.orders_alone(text, 2, [0, 1], [1, 0])

    def test_outermost_lines_of_the_greatest_top(self):
        rows = [["a"] * 6 for row in range(6)]
        rows[0][0], rows[0][5], rows[5][0], rows[5][5] = "b/a", "b\\a", "a\\b", "a/b"
        text = "".join(" ".join(row) + "\n" for row in rows)
        self.lasts_are(text, 0, 2, 3, 4)
        self.orders(text, [1, 0, 2, 3, 4], [4, 1, 3, 2, 0])
        self.no_orders(text, [0, 2, 1, 3, 4], [4, 3, 2, 0, 1])


class Edges(Case):
    def test_a_single_patch(self):
        # It is an order, but no line parts it, so it is not one that may be last.
        for text in ("a\n", "aaaa\n", "a/a\n", "a\\a\n", "a a\na a\n", "a a a a a a\n" * 6):
            self.lasts_are(text)
            self.orders(text, [0])
            self.no_orders(text, [], [1], [0, 0], [0, 1], [1, 0], [GREATEST])

    def test_tops_that_do_not_go_on_one_paper(self):
        for text, total in (("abcd\n", 4), ("abbb\n", 2), ("a a\na b\n", 2), (PINWHEEL, 5), ("abcd e\n", 5)):
            self.assertEqual(can(listed(text)), [0, 0])
            self.orders_alone(text, total)
            self.no_orders(text, [], [0], [0] * total)

    def test_every_size(self):
        for wide, high in itertools.product(range(1, 7), repeat=2):
            upright = (" ".join("abcdef"[:wide]) + "\n") * high
            level = "".join(" ".join(letter * wide) + "\n" for letter in "abcdef"[:high])
            for text, total in ((upright, wide), (level, high)):
                self.lasts_are(text, *([0, total - 1] if total > 1 else []))
                self.orders(text, range(total), range(total)[::-1])
                self.no_orders(text, range(total - 1), range(total + 1), range(1, total + 1))

    def test_the_most_patches(self):
        text = "abcd efgh abcd efgh abcd efgh\nijkl mnop ijkl mnop ijkl mnop\n" * 3
        self.assertEqual(len(reference.patches_of(listed(text))), 144)
        self.lasts_are(text)
        self.no_orders(text, range(144), range(144)[::-1], range(143), range(145), [143] * 144)

    def test_a_call_by_itself(self):
        # What was answered before, or was done to an answer, changes no answer.
        text = listed("a b c\n")
        answer = lasts(text)
        answer.append(7)
        checked = check(text, [0, 1, 2])
        checked.append(7)
        self.assertEqual(lasts(listed("abcd\n")), [0])
        self.assertEqual(check(listed("abcd\n"), [0, 1, 2]), [0, 0])
        self.assertEqual(check([], [0, 1, 2]), [-6])
        self.assertEqual(lasts(text), [0, 0, 2])
        self.assertEqual(check(text, [0, 2, 1]), [0, 0])
        self.assertEqual(check(text, [0, 1, 2]), [0, 1])

    def test_nothing_is_printed(self):
        out = io.StringIO()
        with contextlib.redirect_stdout(out), contextlib.redirect_stderr(out):
            for text in (b"a b\n", b"abcd\n", b"", b"a" * 2000):
                lasts(list(text))
                for row in ([], [0, 1], [1, 1], [GREATEST]):
                    check(list(text), row)
        self.assertEqual(out.getvalue(), "")

    def test_loops_not_nested_calls(self):
        squares = "abcd efgh abcd efgh abcd efgh\nijkl mnop ijkl mnop ijkl mnop\n" * 3
        limit = sys.getrecursionlimit()
        sys.setrecursionlimit(len(inspect.stack()) + 30)
        try:
            answers = [
                check(list(b"a b\n"), list(range(12000))),
                check(listed(squares), list(range(144))),
                check([97] * 20000, [0] * 12000),
                lasts(listed(squares)),
                lasts([10] * 20000),
            ]
        finally:
            sys.setrecursionlimit(limit)
        self.assertEqual(answers, [[0, 0], [0, 0], [-2], [0], [-2]])


class WrongRows(Case):
    TOLD = [2, 4, 3, 1, 0]

    def test_no_numbers(self):
        for text in ("a\n", "a b\n", LOG_CABIN, "abcd\n"):
            self.no_orders(text, [])

    def test_a_patch_is_missing(self):
        for place in range(5):
            self.no_orders(LOG_CABIN, self.TOLD[:place] + self.TOLD[place + 1:])
        self.no_orders("a b c\n", [0], [0, 1], [1, 2], [2])

    def test_a_patch_stands_twice(self):
        for place, other in itertools.permutations(range(5), 2):
            row = list(self.TOLD)
            row[place] = row[other]
            self.no_orders(LOG_CABIN, row)
        for place, patch in itertools.product(range(6), range(5)):
            self.no_orders(LOG_CABIN, self.TOLD[:place] + [patch] + self.TOLD[place:])
        self.no_orders("a b\n", [0, 0], [1, 1], [0, 1, 1], [0, 0, 1], [0, 1, 0, 1])

    def test_a_number_that_is_no_patch(self):
        for number, place in itertools.product((5, 6, 144, 255, 2 ** 31, 2 ** 32 - 5, GREATEST), range(5)):
            self.no_orders(LOG_CABIN, self.TOLD[:place] + [number] + self.TOLD[place + 1:])
        for number in (5, GREATEST):
            self.no_orders(LOG_CABIN, [number] + self.TOLD, self.TOLD + [number])

    def test_numbers_alike_in_their_lower_bits(self):
        # No number counts as the patch that it would be if it were cut to fewer bits.
        for more in (3, 8, 64, 128, 256, 65536, 2 ** 31):
            self.no_orders("a b c\n", [more, 1, 2], [0, more + 1, 2], [0, 1, more + 2], [more, more + 1, more + 2])

    def test_longer_than_the_patches(self):
        self.no_orders(LOG_CABIN, self.TOLD * 2, self.TOLD + [0], [2] + self.TOLD, self.TOLD + [5])

    def test_twelve_thousand_numbers(self):
        told = self.TOLD
        rows = [
            told * 2400,
            told + [0] * 11995,
            [0] * 11995 + told,
            told + [GREATEST] * 11995,
            list(range(12000)),
            list(range(12000))[::-1],
            [GREATEST] * 12000,
        ]
        self.assertEqual({len(row) for row in rows}, {12000})
        self.no_orders(LOG_CABIN, *rows)
        self.no_orders("a\n", *rows)
        self.no_orders("abcd\n", *rows)


class WrongTexts(Case):
    def test_no_bytes(self):
        self.refused("", -6)

    def test_length(self):
        for filler in ("a", "\n", "a\n", "a b c d e f\n"):
            text = (filler * 20000)[:20000]
            self.refused(text[:1024], -6)
            self.refused(text[:1025], -2)
            self.refused(text, -2)

    def test_too_long_counts_before_the_fault(self):
        self.refused([0] * 1024, -6)
        self.refused([0] * 1025, -2)
        self.refused([255] * 20000, -2)
        self.refused(list(b"a b\n") + [32] * 1021, -2)

    def test_faults(self):
        for text in ("a", "\n", "a b", " a\n", "a \n", "a  b\n", "a\n\n", "a b\nc\n", "a\nb c\n", "ab\n", "abc\n"):
            self.refused(text, -6)
        for text in ("abcde\n", "a/\n", "a//b\n", "a-b\n", "1\n", "a\r\n", "a b c d e f g\n", "a\n" * 7):
            self.refused(text, -6)

    def test_the_row_does_not_mend_the_text(self):
        self.hold(check, [0, 1], listed("a b\n"), [0, 1])
        self.hold(check, [-6], listed("a b"), [0, 1])
        self.hold(check, [-6], listed("a b\n\n"), [0, 1])
        self.hold(check, [-2], listed("a b\n" + "a" * 1021), [0, 1])

    def test_every_byte_at_every_place(self):
        for good in (b"a\n", b"a/b\n", b"abcd\n", b"a b\nc d\n"):
            for place, byte in itertools.product(range(len(good)), range(256)):
                text = list(good)
                text[place] = byte
                first = 0 if reference.is_block(text) else -6
                self.assertEqual(lasts(text)[0], first, bytes(text))
                self.assertEqual(check(text, [0])[0], first, bytes(text))


class AgainstTheWords(unittest.TestCase):
    """The answers beside those of the slow reading."""

    def hold(self, text, source):
        given = listed(text)
        patches = reference.patches_of(given)
        sides = reference.sides_of(patches)
        everything = list(range(len(patches)))
        self.assertEqual(lasts(given), [0] + reference.lasts_of(sides, everything), text)
        if len(patches) < 6:
            orders = reference.orders_of(sides, tuple(everything))
            rows = [list(row) for row in itertools.permutations(everything)]
            self.assertEqual([row for row in rows if check(given, row) == [0, 1]], sorted(orders), text)
        for row in self.rows_to_try(given, sides, everything, source):
            answer = 1 if reference.is_order(sides, everything, row) else 0
            self.assertEqual(check(given, row), [0, answer], (text, row))

    def rows_to_try(self, given, sides, everything, source):
        """The told order, where there is one, and rows that are nearly orders."""
        told = order(given)[1:]
        rows = [everything, everything[::-1], told, told[::-1], told[1:], told[:-1]]
        for base in (told, taken_off(sides, everything, source)):
            rows.append(base)
            if base:
                for count in range(4):
                    rows.append(exchanged(base, next(source) % len(base), next(source) % len(base)))
        return rows

    def test_every_square(self):
        source = reference.numbers_from(1)
        for letters in itertools.product("abcd", repeat=4):
            self.hold("".join(letters) + "\n", source)

    def test_every_pair_of_cut_squares(self):
        source = reference.numbers_from(2)
        squares = ["a", "b", "c", "a/b", "b/a", "a\\b", "b\\a", "b/c", "c\\a"]
        for one, other in itertools.product(squares, repeat=2):
            self.hold(one + " " + other + "\n", source)
            self.hold(one + "\n" + other + "\n", source)

    def test_many_tops(self):
        source = reference.numbers_from(7)
        for count in range(250):
            wide, high = 1 + next(source) % 3, 1 + next(source) % 3
            self.hold(reference.made_text(source, wide, high, "abcde"[:2 + next(source) % 4]), source)

    def test_tops_that_are_sewn(self):
        source = reference.numbers_from(13)
        for count in range(40):
            text, strips = reference.sewn_top(source, 1 + next(source) % 6, 1 + next(source) % 6)
            self.hold(text, source)


class ThePromises(unittest.TestCase):
    """D1 and D2, as far as these calls reach them."""

    def tops(self, seed):
        source = reference.numbers_from(seed)
        for count in range(150):
            wide, high = 1 + next(source) % 3, 1 + next(source) % 3
            yield reference.made_text(source, wide, high, "abcd"), source
        for count in range(30):
            yield reference.sewn_top(source, 1 + next(source) % 6, 1 + next(source) % 6)[0], source

    def test_no_last_one_is_wrong(self):
        # Whichever may be last is taken off, at the first step and at all later ones: an order comes of it.
        for text, source in self.tops(17):
            given = listed(text)
            if can(given) == [0, 1]:
                sides = reference.sides_of(reference.patches_of(given))
                everything = list(range(len(order(given)) - 1))
                for patch in lasts(given)[1:]:
                    rest = [other for other in everything if other != patch]
                    row = taken_off(sides, rest, source) + [patch]
                    self.assertEqual(sorted(row), everything, text)
                    self.assertEqual(check(given, row), [0, 1], (text, row))

    def test_the_told_order_is_one(self):
        for text, source in self.tops(19):
            given = listed(text)
            if can(given) == [0, 1]:
                told = order(given)[1:]
                self.assertEqual(check(given, told), [0, 1], text)
                if len(told) > 1:
                    self.assertEqual(told[-1], lasts(given)[-1], text)

    def test_what_does_not_go_on_one_paper_has_no_order(self):
        for text, source in self.tops(23):
            given = listed(text)
            total = len(reference.patches_of(given))
            if can(given) == [0, 0] and total < 6:
                for row in itertools.permutations(range(total)):
                    self.assertEqual(check(given, list(row)), [0, 0], (text, row))

    def test_orders_are_rows_of_all_patches_each_once(self):
        for text, source in self.tops(29):
            given = listed(text)
            total = len(reference.patches_of(given))
            if total < 4:
                for count in range(total + 2):
                    for row in itertools.product(range(total + 1), repeat=count):
                        if sorted(row) != list(range(total)):
                            self.assertEqual(check(given, list(row)), [0, 0], (text, row))


def taken_off(sides, left, source):
    """A row from taking off some patch that may be last each time, or what comes of it until that sticks."""
    left = list(left)
    row = []
    while len(left) > 1:
        found = reference.lasts_of(sides, left)
        if not found:
            break
        row.insert(0, found[next(source) % len(found)])
        left.remove(row[0])
    return left + row


if __name__ == "__main__":
    unittest.main()
