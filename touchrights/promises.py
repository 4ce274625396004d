"""Promises: what never comes FOR ALL HOUSES that keep them."""

from touchrights.cities import (
    all_come_in_all, are_houses_at, comes_in_all, edge_of_all, houses_with, letter_of_all, need_ends, told_in_all,
)
from touchrights.errors import Unfit
from touchrights.follows import is_closed, lines_that_come
from touchrights.forms import as_set, lies_among, need_lines, need_numbers, tupled
from touchrights.letters import edge_of, letter_of, lines_of
from touchrights.subsets import greatest_sets, least_sets, without_these
from touchrights.ties import RIGHTS_USED


def keeps(house, lines):
    house, lines = tupled(house), tupled(lines)
    need_lines(edge_of(house), lines)
    return lies_among(letter_of(house), lines)


def kept_places(houses, promises):
    houses, promises = tupled(houses), tupled(promises)
    if [edge_of(house) for house in houses] != [edge for edge, _ in promises]:
        raise Unfit()
    letters = [letter_of(house) for house in houses]
    return tuple([place for place, letter in enumerate(letters) if lies_among(letter, promises[place][1])])


def full_plot(edge, rights):
    edge, rights = tupled(edge), tupled(rights)
    return (edge, lines_of(edge, as_set(RIGHTS_USED + rights)))


def freed(promises, some, right):
    promises = tupled(promises)
    need_numbers(len(promises), some)
    return freed_in(promises, some, (right,))


def freed_in(promises, some, rights):
    """The CITY with the plots at some left free, for all of these rights."""
    return tuple([
        full_plot(plot[0], rights) if place in some else plot for place, plot in enumerate(promises)
    ])


def barred(promises, hold):
    return barred_but(promises, (), hold)


def barred_but(promises, some, hold):
    promises, hold = tupled(promises), tupled(hold)
    need_numbers(len(promises), some)
    need_ends(promises, (hold,))
    return _is_barred_but(promises, some, hold)


def _is_barred_but(promises, some, hold):
    return not comes_in_all(freed_in(promises, some, hold[1:2]), hold)


def _need_that_it_is_barred(promises, hold):
    need_ends(promises, (hold,))
    if comes_in_all(promises, hold):
        raise Unfit()


def free_places(promises, hold):
    promises, hold = tupled(promises), tupled(hold)
    _need_that_it_is_barred(promises, hold)
    return tuple([place for place in range(len(promises)) if _is_barred_but(promises, (place,), hold)])


def least_enough(promises, hold):
    promises, hold = tupled(promises), tupled(hold)
    _need_that_it_is_barred(promises, hold)
    places = list(range(len(promises)))
    return least_sets(places, lambda some: _is_barred_but(promises, without_these(places, some), hold))


def keepers_for(promises, hold):
    promises, hold = tupled(promises), tupled(hold)
    need_ends(promises, (hold,))
    return houses_with(promises) if comes_in_all(promises, hold) else None


def is_keepers_for(promises, hold, thing):
    promises, hold = tupled(promises), tupled(hold)
    need_ends(promises, (hold,))
    return bring_it_about(promises, (), (hold,), thing)


def bring_it_about(promises, some, holds, thing):
    """Whether thing is a tuple of HOUSES that may stand for promises, but for those at some, and all holds come."""
    if not are_houses_at([edge for edge, _ in promises], thing):
        return False
    plots = [(edge_of(house), letter_of(house)) for house in thing]
    for place, plot in enumerate(plots):
        if place not in some and not lies_among(plot[1], promises[place][1]):
            return False
    return all_come_in_all(plots, holds)


def is_shield(promises, hold, thing):
    promises, hold = tupled(promises), tupled(hold)
    need_ends(promises, (hold,))
    if not is_closed(edge_of_all(promises), thing):
        return False
    return lies_among(told_in_all(promises), thing) and ("home",) + hold not in thing


def shield(promises, hold):
    promises, hold = tupled(promises), tupled(hold)
    need_ends(promises, (hold,))
    return None if comes_in_all(promises, hold) else letter_of_all(promises)


def _need_more(promises, more):
    """more tells of places and of NAMES that are there."""
    need_numbers(len(promises), [number for number, _ in more])
    for number, line in more:
        need_lines(promises[number][0], (line,))


def let_more(promises, more):
    promises, more = tupled(promises), tupled(more)
    _need_more(promises, more)
    plots = []
    for place, (edge, lines) in enumerate(promises):
        told = tuple([line for number, line in more if number == place])
        plots.append((edge, lines_that_come(edge, lines + told)))
    return tuple(plots)


def spare_lines(promises, number, hold):
    promises, hold = tupled(promises), tupled(hold)
    need_numbers(len(promises), (number,))
    _need_that_it_is_barred(promises, hold)
    edge, lines = promises[number]
    others = [line for line in full_plot(edge, hold[1:2])[1] if line not in lines]
    return tuple([line for line in others if not comes_in_all(promises, hold, (line,))])


def _comes_with_these(promises, more, hold, some):
    return comes_in_all(promises, hold, tuple([more[place][1] for place in some]))


def _need_clashes(promises, more, hold):
    _need_more(promises, more)
    _need_that_it_is_barred(promises, hold)


def least_clashes(promises, more, hold):
    promises, more, hold = tupled(promises), tupled(more), tupled(hold)
    _need_clashes(promises, more, hold)
    places = list(range(len(more)))
    return least_sets(places, lambda some: _comes_with_these(promises, more, hold, some))


def greatest_more(promises, more, hold):
    promises, more, hold = tupled(promises), tupled(more), tupled(hold)
    _need_clashes(promises, more, hold)
    places = list(range(len(more)))
    return greatest_sets(places, lambda some: not _comes_with_these(promises, more, hold, some))
