"""The calls about papers: whether a top goes on one, in which orders, what may be last, and how few papers do."""

from paperpiecing.orders import is_order, last_patches, told_order
from paperpiecing.seams import NO_SHEETS, papers_in_row, told_sheets
from paperpiecing.tops import patch_spans, read_block

MOST_BYTES = 1024
MOST_PATCHES = 10

DONE = 0
TOO_LONG = -2
NONE_TO_TELL = -5
AT_FAULT = -6
TOO_MANY = -8


def refusal_of(text, rows):
    """Return the refusal that holds for every call, or DONE if there is none."""
    if len(text) > MOST_BYTES:
        return TOO_LONG
    if rows == []:
        return AT_FAULT
    return DONE


def all_patches(spans):
    """Return the group of all patches of a top."""
    return tuple(range(len(spans[0])))


def can(text):
    """Answer 0, then 1 if the top goes on one paper, else 0; or a refusal."""
    rows = read_block(text)
    refusal = refusal_of(text, rows)
    if refusal != DONE:
        return [refusal]
    spans = patch_spans(rows)
    if told_order(spans, all_patches(spans)) == []:
        return [DONE, 0]
    return [DONE, 1]


def order(text):
    """Answer 0, then the told order; or a refusal."""
    rows = read_block(text)
    refusal = refusal_of(text, rows)
    if refusal != DONE:
        return [refusal]
    spans = patch_spans(rows)
    told = told_order(spans, all_patches(spans))
    if told == []:
        return [NONE_TO_TELL]
    return [DONE] + told


def check(text, row):
    """Answer 0, then 1 if the row is an order of the top, else 0; or a refusal."""
    rows = read_block(text)
    refusal = refusal_of(text, rows)
    if refusal != DONE:
        return [refusal]
    spans = patch_spans(rows)
    if is_order(spans, all_patches(spans), row):
        return [DONE, 1]
    return [DONE, 0]


def lasts(text):
    """Answer 0, then the patches that may be last, rising; or a refusal."""
    rows = read_block(text)
    refusal = refusal_of(text, rows)
    if refusal != DONE:
        return [refusal]
    spans = patch_spans(rows)
    return [DONE] + last_patches(spans, all_patches(spans))


def fewest_sheets(text):
    """Return DONE, how many papers the told sheets of a top have, and their row; or a refusal alone."""
    rows = read_block(text)
    refusal = refusal_of(text, rows)
    if refusal != DONE:
        return (refusal,)
    spans = patch_spans(rows)
    if len(all_patches(spans)) > MOST_PATCHES:
        return (TOO_MANY,)
    told = told_sheets(spans, all_patches(spans))
    if told == NO_SHEETS:
        return (NONE_TO_TELL,)
    return (DONE, told[0], told[1])


def fewest(text):
    """Answer 0, then the fewest papers; or a refusal."""
    found = fewest_sheets(text)
    if found[0] != DONE:
        return [found[0]]
    return [DONE, found[1]]


def sheets(text):
    """Answer 0, then the row of the told sheets; or a refusal."""
    found = fewest_sheets(text)
    if found[0] != DONE:
        return [found[0]]
    return [DONE] + found[2]


def take(text, row):
    """Answer 0, then 1 and how many papers, if the row is that of sheets of the top, else 0 and 0; or a refusal."""
    rows = read_block(text)
    refusal = refusal_of(text, rows)
    if refusal != DONE:
        return [refusal]
    spans = patch_spans(rows)
    papers = papers_in_row(spans, all_patches(spans), row)
    if papers == 0:
        return [DONE, 0, 0]
    return [DONE, 1, papers]
