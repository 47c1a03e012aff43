"""Several papers: the lines that part a group of patches, the told sheets, and reading any row of sheets.

A group is a tuple of patches, rising. A seam is a line that parts a group, with the groups on its two sides.
"""

from paperpiecing.orders import is_order, told_order
from paperpiecing.tops import DIRECTIONS

# A line's at is told with this on top, so that it is never below 0.
AT_SHIFT = 64
# No direction has this number, so a row shows at once whether a paper or a seam begins.
PAPER = 5

NO_SHEETS = (0, ())


def sides_of(spans, group, direction, at):
    """Return the groups before and behind a line that parts a group, or an empty tuple if it doesn't part it."""
    along = spans[direction]
    before = tuple([patch for patch in group if along[patch][1] < at])
    behind = tuple([patch for patch in group if along[patch][0] >= at])
    if before == () or behind == () or len(before) + len(behind) < len(group):
        return ()
    return (before, behind)


def seams_of(spans, group):
    """Return all seams of a group, in the lines' order, each as its direction, its at, and its two sides."""
    seams = []
    for direction in DIRECTIONS:
        lowest = min([spans[direction][patch][0] for patch in group])
        highest = max([spans[direction][patch][1] for patch in group])
        for at in range(lowest + 1, highest + 1):
            sides = sides_of(spans, group, direction, at)
            if sides != ():
                seams.append((direction, at, sides[0], sides[1]))
    return seams


def groups_within(spans, whole):
    """Return the whole group and all that seams lead to from it, the smaller ones first."""
    reached = {whole: True}
    waiting = [whole]
    while len(waiting) > 0:
        group = waiting.pop()
        for seam in seams_of(spans, group):
            for side in seam[2:]:
                if side not in reached:
                    reached[side] = True
                    waiting.append(side)
    return sorted(reached, key=len)


def fewest_by_seam(spans, group, told):
    """Return what told_sheets does, of a group without an order, from what is told of all smaller groups."""
    best = NO_SHEETS
    for direction, at, before, behind in seams_of(spans, group):
        if told[before] != NO_SHEETS and told[behind] != NO_SHEETS:
            papers = told[before][0] + told[behind][0]
            # Only fewer papers count: of the lines that take as few, the first one is told.
            if best == NO_SHEETS or papers < best[0]:
                best = (papers, [direction, at + AT_SHIFT] + told[before][1] + told[behind][1])
    return best


def told_sheets(spans, whole):
    """Return how many papers the told sheets of a group have, and their row; or NO_SHEETS."""
    told = {}
    # The two sides of a seam are smaller than what it parts, so they are told before it.
    for group in groups_within(spans, whole):
        row = told_order(spans, group)
        if row == []:
            told[group] = fewest_by_seam(spans, group, told)
        else:
            told[group] = (1, [PAPER, len(row)] + row)
    return told[whole]


def holds_paper(spans, group, row, place):
    """Tell whether a paper with an order of the group begins at a place of a row."""
    behind_head = place + 2
    if row[place:behind_head] != [PAPER, len(group)]:
        return False
    return is_order(spans, group, row[behind_head:behind_head + len(group)])


def sides_in_row(spans, group, row, place):
    """Return the two sides of the group's seam that begins at a place of a row, or an empty tuple if none does."""
    if place + 2 > len(row) or row[place] not in DIRECTIONS:
        return ()
    return sides_of(spans, group, row[place], row[place + 1] - AT_SHIFT)


def papers_in_row(spans, whole, row):
    """Return how many papers the sheets of a group have that a row tells, or 0 if it is no row of its sheets."""
    papers = 0
    place = 0
    # The groups whose sheets are still to come in the row, the next one at the end.
    waiting = [whole]
    while len(waiting) > 0:
        group = waiting.pop()
        if holds_paper(spans, group, row, place):
            papers = papers + 1
            place = place + 2 + len(group)
        else:
            sides = sides_in_row(spans, group, row, place)
            if sides == ():
                return 0
            waiting.append(sides[1])
            waiting.append(sides[0])
            place = place + 2
    if place < len(row):
        return 0
    return papers
