"""Tops: a block's text read into squares, its patches, and the strips between lines that they reach over."""

MOST_SQUARES = 6

ROW_END = 10
BLANK = 32
SLASH = 47
BACKSLASH = 92

UPPER = 0
RIGHT = 1
LOWER = 2
LEFT = 3

UPRIGHT = 0
LEVEL = 1
FALLING = 2
RISING = 3
DIRECTIONS = (0, 1, 2, 3)

NONE_THERE = -1


def split_at(numbers, mark):
    """Return the pieces between the marks; there is always one more piece than marks."""
    pieces = []
    piece = []
    for number in numbers:
        if number == mark:
            pieces.append(piece)
            piece = []
        else:
            piece.append(number)
    pieces.append(piece)
    return pieces


def is_letter(byte):
    """Tell whether a byte is a to z or A to Z."""
    return 97 <= byte <= 122 or 65 <= byte <= 90


def halved_square(first, cut, second):
    """Return the four letters of a square that is cut once, or an empty list if this is none."""
    if not is_letter(first) or not is_letter(second):
        return []
    if cut == SLASH:
        return [first, second, second, first]
    if cut == BACKSLASH:
        return [first, first, second, second]
    return []


def read_square(piece):
    """Return a square's letters (upper, right, lower, left), or an empty list if the piece is no square."""
    if len(piece) == 3:
        return halved_square(piece[0], piece[1], piece[2])
    if not all([is_letter(byte) for byte in piece]):
        return []
    if len(piece) == 1:
        return [piece[0], piece[0], piece[0], piece[0]]
    if len(piece) == 4:
        return list(piece)
    return []


def read_row(piece):
    """Return a row's squares, or an empty list if the piece is no row."""
    squares = [read_square(part) for part in split_at(piece, BLANK)]
    if len(squares) > MOST_SQUARES or [] in squares:
        return []
    return squares


def read_block(text):
    """Return the rows of squares that a block's text tells, or an empty list if the text is at fault."""
    pieces = split_at(text, ROW_END)
    # Every row has its end behind it, so behind the last end nothing may stand.
    if pieces[-1] != []:
        return []
    rows = [read_row(piece) for piece in pieces[:-1]]
    if len(rows) > MOST_SQUARES:
        return []
    for row in rows:
        if row == [] or len(row) != len(rows[0]):
            return []
    return rows


def quarter_letters(rows):
    """Return the letters of all quarters, in the order of their numbers."""
    letters = []
    for row in rows:
        for square in row:
            letters.extend(square)
    return letters


def quarter_across(quarter, wide, total):
    """Return the quarter of another square that shares a side with this one, or NONE_THERE at the top's edge."""
    square = quarter // 4
    side = quarter % 4
    if side == UPPER and square >= wide:
        return 4 * (square - wide) + LOWER
    if side == RIGHT and square % wide < wide - 1:
        return 4 * (square + 1) + LEFT
    if side == LOWER and 4 * (square + wide) < total:
        return 4 * (square + wide) + UPPER
    if side == LEFT and square % wide > 0:
        return 4 * (square - 1) + RIGHT
    return NONE_THERE


def quarters_beside(quarter, wide, total):
    """Return all quarters that lie side by side with this one."""
    first = quarter - quarter % 4
    beside = [first + (quarter + 1) % 4, first + (quarter + 3) % 4]
    across = quarter_across(quarter, wide, total)
    if across != NONE_THERE:
        beside.append(across)
    return beside


def patch_from(letters, wide, start):
    """Return the quarters of the patch that the quarter start belongs to."""
    reached = {start: True}
    waiting = [start]
    while len(waiting) > 0:
        quarter = waiting.pop()
        for other in quarters_beside(quarter, wide, len(letters)):
            if letters[other] == letters[start] and other not in reached:
                reached[other] = True
                waiting.append(other)
    return list(reached)


def patch_numbers(letters, wide):
    """Return for each quarter the number of its patch."""
    numbers = [NONE_THERE for letter in letters]
    count = 0
    for start in range(len(letters)):
        if numbers[start] == NONE_THERE:
            for quarter in patch_from(letters, wide, start):
                numbers[quarter] = count
            count = count + 1
    return numbers


def strip_of(quarter, wide, direction):
    """Return the strip that a quarter lies in: strip k goes from the direction's line at k to that at k + 1."""
    side = quarter % 4
    across = quarter // 4 % wide
    down = quarter // 4 // wide
    if direction == UPRIGHT:
        return across
    if direction == LEVEL:
        return down
    # A square's own diagonals are lines, so they put its quarters into two strips.
    if direction == FALLING:
        return across - down - (1 if side in (LOWER, LEFT) else 0)
    return across + down + (1 if side in (RIGHT, LOWER) else 0)


def spans_along(numbers, wide, direction):
    """Return for each patch the lowest and the highest strip of a direction that it has quarters in."""
    spans = []
    for quarter, patch in enumerate(numbers):
        strip = strip_of(quarter, wide, direction)
        # Patches are numbered as they come first, so a new one is always the next in the list.
        if patch == len(spans):
            spans.append((strip, strip))
        else:
            spans[patch] = (min(spans[patch][0], strip), max(spans[patch][1], strip))
    return spans


def patch_spans(rows):
    """Return for each direction the spans of all patches of a top."""
    wide = len(rows[0])
    numbers = patch_numbers(quarter_letters(rows), wide)
    return [spans_along(numbers, wide, direction) for direction in DIRECTIONS]
