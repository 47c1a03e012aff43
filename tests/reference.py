"""What the tests share: a second, slow reading of the document, straight from its words, and many tops to try.

Nothing here comes from the package: quarters are triangles with corners, lines are tried one by one,
and orders are found by trying all choices. The tops are made from rows of numbers that are the same each time.
"""

import itertools
import re
import string

SQUARE = rb"(?:[A-Za-z]|[A-Za-z][/\\][A-Za-z]|[A-Za-z]{4})"
BLOCKS = [re.compile(rb"(?:%s(?: %s){%d}\n){1,6}" % (SQUARE, SQUARE, more)) for more in range(6)]
LINES = [(direction, at) for direction in range(4) for at in range(-8, 15)]


def is_block(text):
    return any(block.fullmatch(bytes(text)) for block in BLOCKS)


def letters_of(square):
    if len(square) == 1:
        return square * 4
    if square[1] == "/":
        return square[0] + square[2] + square[2] + square[0]
    if square[1] == "\\":
        return square[0] + square[0] + square[2] + square[2]
    return square


class Quarter:
    def __init__(self, x, y, side, letter):
        corners = [(2 * x, 2 * y), (2 * x + 2, 2 * y), (2 * x + 2, 2 * y + 2), (2 * x, 2 * y + 2)]
        self.corners = {(2 * x + 1, 2 * y + 1), corners[side], corners[(side + 1) % 4]}
        self.letter = letter
        # Three times twice the middle of the corners, so that it stays whole.
        self.x6 = sum(corner[0] for corner in self.corners)
        self.y6 = sum(corner[1] for corner in self.corners)

    def before(self, direction, at):
        place = (self.x6, self.y6, self.x6 - self.y6, self.x6 + self.y6)[direction]
        assert place != 6 * at
        return place < 6 * at


def quarters_of(text):
    rows = [row.split(" ") for row in bytes(text).decode("ascii").split("\n")[:-1]]
    return [
        Quarter(x, y, side, letter)
        for y, row in enumerate(rows)
        for x, square in enumerate(row)
        for side, letter in enumerate(letters_of(square))
    ]


def patches_of(text):
    """The patches, each a list of quarters, as they come first."""
    quarters = quarters_of(text)
    patches = []
    seen = set()
    for start in range(len(quarters)):
        if start in seen:
            continue
        patch = {start}
        grown = True
        while grown:
            more = {
                other
                for one in patch
                for other in range(len(quarters))
                if other not in patch
                and quarters[other].letter == quarters[start].letter
                and len(quarters[one].corners & quarters[other].corners) == 2
            }
            patch |= more
            grown = bool(more)
        seen |= patch
        patches.append([quarters[number] for number in sorted(patch)])
    return patches


def sides_of(patches):
    """For each line and patch: the sides that the patch has quarters on."""
    return {line: [{quarter.before(*line) for quarter in patch} for patch in patches] for line in LINES}


def may_be_last(sides, left, patch):
    for line in LINES:
        here = {number: sides[line][number] for number in left}
        if any(len(side) == 2 for side in here.values()):
            continue
        for side in (True, False):
            there = [number for number in left if side in here[number]]
            if there == [patch] and len(left) > 1:
                return True
    return False


def orders_of(sides, left):
    """All orders of some patches."""
    if len(left) == 1:
        return [list(left)]
    found = []
    for patch in left:
        if may_be_last(sides, left, patch):
            rest = tuple(number for number in left if number != patch)
            found += [row + [patch] for row in orders_of(sides, rest)]
    return found


def told_order(sides, left):
    row = []
    while len(left) > 1:
        lasts = [patch for patch in left if may_be_last(sides, left, patch)]
        if not lasts:
            return None
        row.insert(0, max(lasts))
        left = [patch for patch in left if patch != max(lasts)]
    return list(left) + row


def lasts_of(sides, left):
    return [patch for patch in left if may_be_last(sides, left, patch)]


def is_order(sides, total, row):
    """Whether a row is an order of the patches from 0 to below the total."""
    if sorted(row) != list(range(total)):
        return False
    return all(may_be_last(sides, row[:place + 1], row[place]) for place in range(1, total))


def numbers_from(seed):
    """The same row of whole numbers each time."""
    while True:
        seed = (seed * 6364136223846793005 + 1442695040888963407) % 2 ** 64
        yield seed >> 33


def made_text(source, wide, high, letters):
    def square():
        some = [letters[next(source) % len(letters)] for count in range(4)]
        forms = [some[0], some[0] + "/" + some[1], some[0] + "\\" + some[1], "".join(some), some[0], some[0]]
        return forms[next(source) % len(forms)]

    return "".join(" ".join(square() for x in range(wide)) + "\n" for y in range(high))


def sewn_top(source, wide, high):
    """A top from which strips at its sides are taken, and how many: each has a letter of its own."""
    letters = [["z"] * wide for row in range(high)]
    left, right, upper, lower = 0, wide, 0, high
    count = 0
    while right - left > 1 or lower - upper > 1:
        box = [left, right, upper, lower]
        if right - left > 1 and (lower - upper == 1 or next(source) % 2):
            box[next(source) % 2] = left + 1 + next(source) % (right - left - 1)
        else:
            box[2 + next(source) % 2] = upper + 1 + next(source) % (lower - upper - 1)
        for x, y in itertools.product(range(left, right), range(upper, lower)):
            if not (box[0] <= x < box[1] and box[2] <= y < box[3]):
                letters[y][x] = string.ascii_letters[count]
        left, right, upper, lower = box
        count += 1
    return "".join(" ".join(row) + "\n" for row in letters), count + 1
