"""Patch behind patch: which patches of a group may be last, and the orders in which they go on one paper."""


def last_patches(spans, patches):
    """Return those of the patches that may be last, rising."""
    found = {}
    # No line parts a single patch.
    if len(patches) < 2:
        return []
    for along in spans:
        # A patch that ends below the second lowest beginning ends below all the others' beginnings:
        # it is itself the lowest. So one bound serves for every patch, and likewise from the other end.
        second_low = sorted([along[patch][0] for patch in patches])[1]
        second_high = sorted([along[patch][1] for patch in patches])[-2]
        for patch in patches:
            if along[patch][1] < second_low or along[patch][0] > second_high:
                found[patch] = True
    return sorted(found)


def told_order(spans, group):
    """Return the told order of a group of patches, or an empty list if they have no order."""
    left = list(group)
    taken = []
    # A patch that may be last may still be when others are gone, so no choice leads astray.
    while len(left) > 1:
        found = last_patches(spans, left)
        if found == []:
            return []
        taken.append(found[-1])
        left.remove(found[-1])
    return left + list(reversed(taken))


def is_order(spans, group, row):
    """Tell whether a row of numbers is an order of a group of patches, whose numbers rise."""
    if sorted(row) != list(group):
        return False
    left = list(row)
    while len(left) > 1:
        if left[-1] not in last_patches(spans, left):
            return False
        left.pop()
    return True
