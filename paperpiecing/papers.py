"""The calls about papers: whether a top goes on one, in which orders its patches are put on, and which may be last."""

from paperpiecing.tops import patch_spans, read_block

MOST_BYTES = 1024

DONE = 0
TOO_LONG = -2
NO_ORDER = -5
AT_FAULT = -6


def refusal_of(text, rows):
    """Return the refusal that holds for every call, or DONE if there is none."""
    if len(text) > MOST_BYTES:
        return TOO_LONG
    if rows == []:
        return AT_FAULT
    return DONE


def last_patches(spans, patches):
    """Return those of the patches that may be last, rising."""
    found = {}
    # No line parts a single patch.
    if len(patches) < 2:
        return []
    for along in spans:
        # A patch that ends below the second lowest beginning ends below all the others' beginnings:
        # it is itself the lowest. So one bound serves for every patch, and likewise from the other end.
        second_low = sorted([along[patch][0] for patch in patches])[1]
        second_high = sorted([along[patch][1] for patch in patches])[-2]
        for patch in patches:
            if along[patch][1] < second_low or along[patch][0] > second_high:
                found[patch] = True
    return sorted(found)


def told_order(spans):
    """Return the told order of a top's patches, or an empty list if they have no order."""
    left = list(range(len(spans[0])))
    taken = []
    # A patch that may be last may still be when others are gone, so no choice leads astray.
    while len(left) > 1:
        found = last_patches(spans, left)
        if found == []:
            return []
        taken.append(found[-1])
        left.remove(found[-1])
    return left + list(reversed(taken))


def is_order(spans, row):
    """Tell whether a row of numbers is an order of all patches of a top."""
    total = len(spans[0])
    if sorted(row) != list(range(total)):
        return False
    left = list(row)
    while len(left) > 1:
        if left[-1] not in last_patches(spans, left):
            return False
        left.pop()
    return True


def can(text):
    """Answer 0, then 1 if the top goes on one paper, else 0; or a refusal."""
    rows = read_block(text)
    refusal = refusal_of(text, rows)
    if refusal != DONE:
        return [refusal]
    if told_order(patch_spans(rows)) == []:
        return [DONE, 0]
    return [DONE, 1]


def order(text):
    """Answer 0, then the told order; or a refusal."""
    rows = read_block(text)
    refusal = refusal_of(text, rows)
    if refusal != DONE:
        return [refusal]
    told = told_order(patch_spans(rows))
    if told == []:
        return [NO_ORDER]
    return [DONE] + told


def check(text, row):
    """Answer 0, then 1 if the row is an order of the top, else 0; or a refusal."""
    rows = read_block(text)
    refusal = refusal_of(text, rows)
    if refusal != DONE:
        return [refusal]
    if is_order(patch_spans(rows), row):
        return [DONE, 1]
    return [DONE, 0]


def lasts(text):
    """Answer 0, then the patches that may be last, rising; or a refusal."""
    rows = read_block(text)
    refusal = refusal_of(text, rows)
    if refusal != DONE:
        return [refusal]
    spans = patch_spans(rows)
    return [DONE] + last_patches(spans, list(range(len(spans[0]))))
