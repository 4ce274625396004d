"""Least and greatest of the sets that fit, where more of what fits fits, too."""

from itertools import combinations

from touchrights.forms import lies_among


def least_sets(parts, fits):
    """The ascending list of the sets of some of these parts that fit, and no part of which fits.

    A set with more parts than one that fits has to fit, too.
    """
    rows = list(parts)
    found = []
    for many in range(len(rows) + 1):
        for some in combinations(rows, many):
            if not any([lies_among(less, some) for less in found]) and fits(some):
                found.append(some)
    return sorted(found)
