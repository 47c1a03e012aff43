"""What the tests share: a second, slow reading of the document, straight from its words, and many tops to try.

Nothing here comes from the package: quarters are triangles with corners, lines are tried one by one,
and orders and sheets are found by trying all choices. The tops are made from rows of numbers that are the same
each time. Sheets are ("paper", patches) or ("seam", line, sheets before it, sheets behind it).
"""

import functools
import itertools
import re
import string
import unittest

SQUARE = rb"(?:[A-Za-z]|[A-Za-z][/\\][A-Za-z]|[A-Za-z]{4})"
BLOCKS = [re.compile(rb"(?:%s(?: %s){%d}\n){1,6}" % (SQUARE, SQUARE, more)) for more in range(6)]
LINES = [(direction, at) for direction in range(4) for at in range(-8, 15)]

GREATEST = 4294967295
LOG_CABIN = "a b b\na c d\na e d\n"
PINWHEEL = "a a b\nd e b\nd c c\n"
# Tops of ten patches, among them those with the most groups of patches between seams that a search found: 66.
SLOW_TOPS = (
    "a b c d e\nf g h i j\n",
    "a b\nc d\ne f\ng h\ni j\n",
    "a/b c/d e/f g/h i/j\n",
    "a/b a\\b aacc\na\\b a/b a/b\n",
    "a/b c\\d\na/b c\\d\nb\\a deed\n",
    "lggl llff\nlggl l\\k\ng\\k k/i\n",
    "lklb l\\k\ne\\l cdhe\n",
    "abcd efgh i/j\n",
    "t k k\nk f b\nb lkdb b\ni i i\n",
    "a b c c c c\na b d d d d\na b e f f f\na b e g g g\na b e h i i\na b e h j j\n",
)

# On three papers, on four, on five and on six.
MANY_PAPERS = (
    "amca a\nd a\\d\n",
    "igid\nigid\n",
    "l l/j g\nk l g\n",
    "jfgi jfgi k/b\n",
    "j j\nh\\f g\nf j\nc c\n",
    "baba h d\nb j a\n",
    "c f\ngijc gijc\n",
    "t t t\nc l b\nc e/h h\ni i i\n",
    "k tica i f\nk g a f\\k\n",
    "i ahae\nc a\na bgda\n",
    "t t t\nc l/j g\ncgkk g c\ni i i\n",
    "t k k\nk f b\nb lkdb b\ni i i\n",
)


def is_block(text):
    return any(block.fullmatch(bytes(text)) for block in BLOCKS)


def letters_of(square):
    if len(square) == 1:
        return square * 4
    if square[1] == "/":
        return square[0] + square[2] + square[2] + square[0]
    if square[1] == "\\":
        return square[0] + square[0] + square[2] + square[2]
    return square


class Quarter:
    def __init__(self, x, y, side, letter):
        corners = [(2 * x, 2 * y), (2 * x + 2, 2 * y), (2 * x + 2, 2 * y + 2), (2 * x, 2 * y + 2)]
        self.corners = {(2 * x + 1, 2 * y + 1), corners[side], corners[(side + 1) % 4]}
        self.letter = letter
        # Three times twice the middle of the corners, so that it stays whole.
        self.x6 = sum(corner[0] for corner in self.corners)
        self.y6 = sum(corner[1] for corner in self.corners)

    def before(self, direction, at):
        place = (self.x6, self.y6, self.x6 - self.y6, self.x6 + self.y6)[direction]
        assert place != 6 * at
        return place < 6 * at


def quarters_of(text):
    rows = [row.split(" ") for row in bytes(text).decode("ascii").split("\n")[:-1]]
    return [
        Quarter(x, y, side, letter)
        for y, row in enumerate(rows)
        for x, square in enumerate(row)
        for side, letter in enumerate(letters_of(square))
    ]


def patches_of(text):
    """The patches, each a list of quarters, as they come first."""
    quarters = quarters_of(text)
    patches = []
    seen = set()
    for start in range(len(quarters)):
        if start in seen:
            continue
        patch = {start}
        grown = True
        while grown:
            more = {
                other
                for one in patch
                for other in range(len(quarters))
                if other not in patch
                and quarters[other].letter == quarters[start].letter
                and len(quarters[one].corners & quarters[other].corners) == 2
            }
            patch |= more
            grown = bool(more)
        seen |= patch
        patches.append([quarters[number] for number in sorted(patch)])
    return patches


def sides_of(patches):
    """For each line that has quarters on both sides, and each patch: the sides that the patch has quarters on."""
    sides = {line: [{quarter.before(*line) for quarter in patch} for patch in patches] for line in LINES}
    return {line: here for line, here in sides.items() if len(set.union(*here)) == 2}


def may_be_last(sides, left, patch):
    for line in sides:
        here = {number: sides[line][number] for number in left}
        if any(len(side) == 2 for side in here.values()):
            continue
        for side in (True, False):
            there = [number for number in left if side in here[number]]
            if there == [patch] and len(left) > 1:
                return True
    return False


def orders_of(sides, left):
    """All orders of some patches."""
    if len(left) == 1:
        return [list(left)]
    found = []
    for patch in left:
        if may_be_last(sides, left, patch):
            rest = tuple(number for number in left if number != patch)
            found += [row + [patch] for row in orders_of(sides, rest)]
    return found


def told_order(sides, left):
    row = []
    while len(left) > 1:
        lasts = [patch for patch in left if may_be_last(sides, left, patch)]
        if not lasts:
            return None
        row.insert(0, max(lasts))
        left = [patch for patch in left if patch != max(lasts)]
    return list(left) + row


def lasts_of(sides, left):
    return [patch for patch in left if may_be_last(sides, left, patch)]


def is_order(sides, left, row):
    """Whether a row is an order of some patches."""
    if sorted(row) != sorted(left):
        return False
    return all(may_be_last(sides, row[:place + 1], row[place]) for place in range(1, len(row)))


def parted(sides, left, line):
    """The patches before a line that parts them, and those behind it; or None."""
    if line not in sides or any(len(sides[line][patch]) == 2 for patch in left):
        return None
    before = tuple(patch for patch in left if True in sides[line][patch])
    behind = tuple(patch for patch in left if False in sides[line][patch])
    return (before, behind) if before and behind else None


def seams_of(sides, left):
    """All lines that part some patches, in the lines' order, each with its two sides."""
    found = [(line, parted(sides, left, line)) for line in sorted(sides)]
    return [(line, both) for line, both in found if both]


def all_sheets(sides, left):
    found = [("paper", tuple(row)) for row in orders_of(sides, left)]
    for line, (before, behind) in seams_of(sides, left):
        for one, other in itertools.product(all_sheets(sides, before), all_sheets(sides, behind)):
            found.append(("seam", line, one, other))
    return found


def papers_in(sheets):
    return 1 if sheets[0] == "paper" else papers_in(sheets[2]) + papers_in(sheets[3])


def told_sheets(sides, left, known):
    """The told sheets or None; what is known of some patches is kept, for they are come to in many ways."""
    if left not in known:
        row = told_order(sides, left)
        known[left] = ("paper", tuple(row)) if row else sheets_by_first_line(sides, left, known)
    return known[left]


def sheets_by_first_line(sides, left, known):
    found = []
    for line, both in seams_of(sides, left):
        before, behind = [told_sheets(sides, side, known) for side in both]
        if before and behind:
            found.append(("seam", line, before, behind))
    least = min([papers_in(sheets) for sheets in found], default=0)
    return next((sheets for sheets in found if papers_in(sheets) == least), None)


def paper(*patches):
    return [5, len(patches), *patches]


def upright(at, before, behind):
    return [0, at + 64] + before + behind


def level(at, before, behind):
    return [1, at + 64] + before + behind


def falling(at, before, behind):
    return [2, at + 64] + before + behind


def rising(at, before, behind):
    return [3, at + 64] + before + behind


def row_of(sheets):
    if sheets[0] == "paper":
        return [5, len(sheets[1]), *sheets[1]]
    direction, at = sheets[1]
    return [direction, at + 64] + row_of(sheets[2]) + row_of(sheets[3])


def read_sheets(row):
    """The sheets that the front of a row tells, and what is left behind them."""
    kind, number, *rest = row
    if kind == 5:
        assert 0 < number <= len(rest)
        return ("paper", tuple(rest[:number])), rest[number:]
    assert kind in range(4)
    before, rest = read_sheets(rest)
    behind, rest = read_sheets(rest)
    return ("seam", (kind, number - 64), before, behind), rest


def are_sheets(sides, left, sheets):
    if sheets[0] == "paper":
        return is_order(sides, left, list(sheets[1]))
    both = parted(sides, left, sheets[1])
    return both is not None and are_sheets(sides, both[0], sheets[2]) and are_sheets(sides, both[1], sheets[3])


def front_taken(sides, left, row):
    """How many papers the sheets of some patches have that a row begins with, and the rest of it; or None."""
    if len(row) < 2:
        return None
    kind, number = row[:2]
    if kind == 5:
        patches, rest = row[2:2 + number], row[2 + number:]
        return (1, rest) if len(patches) == number and is_order(sides, left, patches) else None
    both = parted(sides, left, (kind, number - 64))
    before = front_taken(sides, both[0], row[2:]) if both else None
    behind = front_taken(sides, both[1], before[1]) if before else None
    return (before[0] + behind[0], behind[1]) if behind else None


def taken(sides, left, row):
    """How many papers the sheets of some patches have that a row tells; 0 if it tells none."""
    found = front_taken(sides, left, list(row))
    return found[0] if found and found[1] == [] else 0


def some_sheets(sides, left, source):
    """Some sheets of patches that can be sewn by straight seams; None if they can't."""
    row = told_order(sides, left)
    if row and next(source) % 3:
        return ("paper", tuple(row))
    seams = seams_of(sides, left)
    if len(left) == 1 or not seams:
        return ("paper", tuple(row)) if row else None
    line, both = seams[next(source) % len(seams)]
    before, behind = [some_sheets(sides, side, source) for side in both]
    return ("seam", line, before, behind) if before and behind else None


def numbers_from(seed):
    """The same row of whole numbers each time."""
    while True:
        seed = (seed * 6364136223846793005 + 1442695040888963407) % 2 ** 64
        yield seed >> 33


def made_text(source, wide, high, letters):
    def square():
        some = [letters[next(source) % len(letters)] for count in range(4)]
        forms = [some[0], some[0] + "/" + some[1], some[0] + "\\" + some[1], "".join(some), some[0], some[0]]
        return forms[next(source) % len(forms)]

    return "".join(" ".join(square() for x in range(wide)) + "\n" for y in range(high))


def sewn_top(source, wide, high):
    """A top from which strips at its sides are taken, and how many: each has a letter of its own."""
    letters = [["z"] * wide for row in range(high)]
    left, right, upper, lower = 0, wide, 0, high
    count = 0
    while right - left > 1 or lower - upper > 1:
        box = [left, right, upper, lower]
        if right - left > 1 and (lower - upper == 1 or next(source) % 2):
            box[next(source) % 2] = left + 1 + next(source) % (right - left - 1)
        else:
            box[2 + next(source) % 2] = upper + 1 + next(source) % (lower - upper - 1)
        for x, y in itertools.product(range(left, right), range(upper, lower)):
            if not (box[0] <= x < box[1] and box[2] <= y < box[3]):
                letters[y][x] = string.ascii_letters[count]
        left, right, upper, lower = box
        count += 1
    return "".join(" ".join(row) + "\n" for row in letters), count + 1


def cut_top(source, wide, high, most):
    """A top that is cut through again and again, into at most so many pieces: each has a letter of its own."""
    boxes = [(0, wide, 0, high)]
    for cut in range(next(source) % most):
        left, right, upper, lower = boxes.pop(next(source) % len(boxes))
        if next(source) % 2 and right - left > 1:
            middle = left + 1 + next(source) % (right - left - 1)
            boxes += [(left, middle, upper, lower), (middle, right, upper, lower)]
        elif lower - upper > 1:
            middle = upper + 1 + next(source) % (lower - upper - 1)
            boxes += [(left, right, upper, middle), (left, right, middle, lower)]
        else:
            boxes.append((left, right, upper, lower))
    letters = {
        (x, y): string.ascii_letters[number]
        for number, (left, right, upper, lower) in enumerate(boxes)
        for x, y in itertools.product(range(left, right), range(upper, lower))
    }
    return "".join(" ".join(letters[x, y] for x in range(wide)) + "\n" for y in range(high))


def squares_of(text):
    return [[letters_of(square) for square in row.split(" ")] for row in text.split("\n")[:-1]]


def turned(text):
    """The top turned to the right by a quarter of a circle: what was left is now above."""
    rows = squares_of(text)
    columns = [[row[x] for row in reversed(rows)] for x in range(len(rows[0]))]
    return "".join(" ".join(square[3] + square[:3] for square in column) + "\n" for column in columns)


def mirrored(text):
    """The top with left and right changed about."""
    rows = [[square[0] + square[3] + square[2] + square[1] for square in reversed(row)] for row in squares_of(text)]
    return "".join(" ".join(row) + "\n" for row in rows)


def all_ways_round(text):
    """The top as it lies when it is turned and laid on its face."""
    ways = [text, turned(text), turned(turned(text)), turned(turned(turned(text)))]
    return ways + [mirrored(way) for way in ways]


def many_tops(seed):
    """Texts of all kinds: letters at random, strips along the sides, pieces cut through and through."""
    source = numbers_from(seed)
    for count in range(200):
        yield made_text(source, 1 + next(source) % 3, 1 + next(source) % 3, "abcde"[:2 + next(source) % 4])
    for count in range(120):
        yield made_text(source, 1 + next(source) % 2, 1 + next(source) % 2, "abcdefghijklmno")
    for count in range(40):
        yield sewn_top(source, 1 + next(source) % 6, 1 + next(source) % 6)[0]
    for count in range(120):
        yield cut_top(source, 2 + next(source) % 5, 2 + next(source) % 5, 12)
    for text in MANY_PAPERS:
        yield from all_ways_round(text)


@functools.cache
def slowly_read(text):
    """All patches of a top, and on which sides of the lines they lie; kept, for several tests read the same tops."""
    patches = patches_of(listed(text))
    return tuple(range(len(patches))), sides_of(patches)


class UnchangingList(list):
    """A list that can't be changed, not for a while either."""

    def refuse(self, *args, **named):
        raise AssertionError("what is handed in is changed")

    append = clear = extend = insert = pop = remove = reverse = sort = refuse
    __setitem__ = __delitem__ = __iadd__ = __imul__ = refuse


def listed(text):
    return list(text.encode("ascii") if isinstance(text, str) else text)


def shown(values):
    return values if len(values) < 200 else values[:200]


class Case(unittest.TestCase):
    def hold(self, call, answer, *given):
        """Hold two calls with the same lists against the answer, and the lists against what they were."""
        kept = [list(values) for values in given]
        with self.subTest(call=call.__name__, given=[shown(values) for values in given]):
            for time in range(2):
                got = call(*given)
                self.assertEqual(got, answer)
                self.assertIs(type(got), list)
                self.assertEqual({type(number) for number in got}, {int})
                self.assertEqual(list(given), kept)
            self.assertEqual(call(*[UnchangingList(values) for values in given]), answer)
