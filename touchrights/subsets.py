"""The least, the greatest and the fewest of sets that fit."""

from itertools import combinations

from touchrights.forms import lies_among


def least_sets(parts, fits):
    """The ascending list of the sets of some of these parts that fit, and no part of which fits.

    A set with more parts than one that fits has to fit, too.
    """
    rows = list(parts)
    found = []
    for many in range(len(rows) + 1):
        for some in combinations(rows, many):
            if not any([lies_among(less, some) for less in found]) and fits(some):
                found.append(some)
    return sorted(found)


def greatest_sets(parts, fits):
    """The ascending list of the sets of some of these parts that fit, and no further part of which could be added.

    A set with fewer parts than one that fits has to fit, too.
    """
    lots = least_sets(parts, lambda left: fits(without_these(parts, left)))
    return sorted([without_these(parts, left) for left in lots])


def without_these(parts, left):
    return tuple([part for part in parts if part not in left])


def fewest_of(lots):
    """Of these sets one with as few parts as can be, of these the least; None if there are none."""
    if not lots:
        return None
    return min([(len(lot), lot) for lot in lots])[1]
