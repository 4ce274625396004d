"""Lean sets of LINES, and what LINES bring under other NAMES."""

from itertools import combinations, permutations

from touchrights.errors import Unfit
from touchrights.follows import line_comes, lines_that_come
from touchrights.forms import as_set, lies_among, need_lines, need_members, tupled


def joined_letters(edge, lines, more):
    edge, lines, more = tupled(edge), tupled(lines), tupled(more)
    need_lines(edge, lines + more)
    return lines_that_come(edge, lines + more)


def common_letter(edge, lines, more):
    edge, lines, more = tupled(edge), tupled(lines), tupled(more)
    need_lines(edge, lines + more)
    return tuple(sorted(set(lines_that_come(edge, lines)) & set(lines_that_come(edge, more))))


def anew(edge, lines, more):
    edge, lines, more = tupled(edge), tupled(lines), tupled(more)
    need_lines(edge, lines + more)
    alone = set(lines_that_come(edge, lines) + lines_that_come(edge, more))
    return tuple([line for line in lines_that_come(edge, lines + more) if line not in alone])


def lies_within(edge, lines, more):
    edge, lines, more = tupled(edge), tupled(lines), tupled(more)
    need_lines(edge, lines + more)
    return lies_among(lines, lines_that_come(edge, more))


def _without(lines, line):
    return tuple([other for other in lines if other != line])


def _needless(edge, lines):
    """Those of the LINES that all others bring, each by itself."""
    return [line for line in lines if line_comes(edge, _without(lines, line), line)]


def is_lean(edge, lines):
    edge, lines = tupled(edge), tupled(lines)
    need_lines(edge, lines)
    return not _needless(edge, lines)


def lean_lines(edge, lines):
    edge, lines = tupled(edge), tupled(lines)
    need_lines(edge, lines)
    left = lines
    for line in lines:
        if line_comes(edge, _without(left, line), line):
            left = _without(left, line)
    return left


def fewest_lines(edge, lines):
    return len(least_lines(edge, lines))


def least_lines(edge, lines):
    edge, lines = tupled(edge), tupled(lines)
    need_lines(edge, lines)
    return _least_that_bring(edge, lines_that_come(edge, lines))


def _least_that_bring(edge, letter):
    """Of the smallest sets of LINES that bring this LETTER the least.

    A LINE that no others bring is in each of them, and no LINE that such ones bring is in any.
    """
    needless = _needless(edge, letter)
    needed = [line for line in letter if line not in needless]
    sure = lines_that_come(edge, needed)
    choice = [line for line in letter if line not in sure]
    for many in range(len(choice) + 1):
        lots = [as_set(list(some) + needed) for some in combinations(choice, many)]
        fits = [lot for lot in lots if lines_that_come(edge, lot) == letter]
        if fits:
            return min(fits)
    return letter


def apart(edge, lines):
    edge, lines = tupled(edge), tupled(lines)
    need_lines(edge, lines)
    groups = [(name,) for name in edge[0] + edge[1]]
    for line in lines_that_come(edge, lines):
        joined = [group for group in groups if line[1] in group or line[-1] in group]
        others = [group for group in groups if group not in joined]
        groups = others + [as_set([name for group in joined for name in group])]
    return as_set(groups)


def renamed_lines(edge, lines, names):
    edge, lines, names = tupled(edge), tupled(lines), tupled(names)
    olds = [old for old, _ in names]
    need_members(edge[0] + edge[1], olds)
    need_lines(edge, lines)
    if as_set(olds) != as_set(edge[0] + edge[1]) or len(set(olds)) < len(olds):
        raise Unfit()
    news = {old: new for old, new in names}
    if len(set(list(news.values()))) < len(news):
        raise Unfit()
    sorts = [as_set([news[name] for name in sort]) for sort in edge]
    return (tuple(sorts), _lines_with(lines, news))


def _lines_with(lines, news):
    """The LINES with the new NAMES in the place of the old ones."""
    return as_set([_line_with(line, news) for line in lines])


def _line_with(line, news):
    one, other = news[line[1]], news[line[-1]]
    if line[0] in ("meets", "both"):
        return (line[0], min(one, other), max(one, other))
    return (line[0], one) + line[2:-1] + (other,)


def names_between(edge, lines, other, more):
    edge, lines, other, more = tupled(edge), tupled(lines), tupled(other), tupled(more)
    need_lines(edge, lines)
    need_lines(other, more)
    letter, goal = lines_that_come(edge, lines), lines_that_come(other, more)
    ways = [news for news in _ways_between(edge, other) if _lines_with(letter, news) == goal]
    return sorted([tuple(sorted(list(news.items()))) for news in ways])


def _ways_between(edge, other):
    """All dicts by which PEOPLE become PEOPLE, THINGS THINGS."""
    if [len(sort) for sort in edge] != [len(sort) for sort in other]:
        return []
    names, people, things = edge[0] + edge[1], list(other[0]), list(other[1])
    ways = []
    for alive in permutations(people):
        for still in permutations(things):
            ways.append({old: new for old, new in zip(names, alive + still)})
    return ways
