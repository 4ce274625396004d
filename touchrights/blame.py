"""Blame: which HOUSES could have broken their promises, if some HOLDS were seen to come."""

from touchrights.cities import all_come_in_all, comes_in_all, houses_with, need_ends, ties_of_all, told_in_all
from touchrights.errors import Unfit
from touchrights.forms import as_set, need_numbers, new_names, tupled, with_part
from touchrights.promises import bring_it_about, freed_in, full_plot
from touchrights.subsets import least_sets
from touchrights.ties import rights_told


def _rights_of(promises, sights):
    return as_set(rights_told(told_in_all(promises)) + tuple([hold[1] for hold in sights]))


def _need_sights(promises, sights, numbers):
    need_numbers(len(promises), numbers)
    need_ends(promises, sights)


def _broken(promises, sights, some):
    """The CITY in which the HOUSES at these places let whatever they like."""
    return freed_in(promises, some, _rights_of(promises, sights))


def _may_have_broken(promises, sights, some):
    return all_come_in_all(_broken(promises, sights, some), sights)


def are_breakers(promises, sights, some):
    promises, sights = tupled(promises), tupled(sights)
    _need_sights(promises, sights, some)
    return _may_have_broken(promises, sights, some)


def least_breakers(promises, sights):
    promises, sights = tupled(promises), tupled(sights)
    _need_sights(promises, sights, ())
    return _least_of(promises, sights, list(range(len(promises))))


def _least_of(promises, sights, places):
    return least_sets(places, lambda some: _may_have_broken(promises, sights, some))


def _some_breakers(promises, sights):
    """The least ones, of which there has to be one."""
    lots = least_breakers(promises, sights)
    if not lots:
        raise Unfit()
    return lots


def surely_broke(promises, sights):
    lots = _some_breakers(promises, sights)
    return tuple([place for place in lots[0] if all([place in lot for lot in lots])])


def maybe_broke(promises, sights):
    return as_set([place for lot in _some_breakers(promises, sights) for place in lot])


def first_proof(promises, sights):
    promises, sights = tupled(promises), tupled(sights)
    _need_sights(promises, sights, ())
    for place, hold in enumerate(sights):
        if not comes_in_all(promises, hold):
            return place
    return None


def blamed_lines(promises, sights, number):
    promises, sights = tupled(promises), tupled(sights)
    _need_sights(promises, sights, (number,))
    if all_come_in_all(promises, sights):
        return ()
    edge, lines = promises[number]
    others = [line for line in full_plot(edge, _rights_of(promises, sights))[1] if line not in lines]
    return tuple([line for line in others if all_come_in_all(promises, sights, (line,))])


def least_breakers_knowing(promises, sights, known):
    promises, sights, known = tupled(promises), tupled(sights), tupled(known)
    numbers = [number for number, _ in known]
    _need_sights(promises, sights, numbers)
    for number, lines in known:
        promises = with_part(promises, number, (promises[number][0], lines))
    return _least_of(promises, sights, [place for place in range(len(promises)) if place not in numbers])


def breaking_houses(promises, sights, some):
    promises, sights = tupled(promises), tupled(sights)
    _need_sights(promises, sights, some)
    city = _broken(promises, sights, some)
    return houses_with(city) if all_come_in_all(city, sights) else None


def is_breaking_houses(promises, sights, some, thing):
    promises, sights = tupled(promises), tupled(sights)
    _need_sights(promises, sights, some)
    return bring_it_about(promises, some, sights, thing)


def blame_alike(promises):
    promises = tupled(promises)
    rights = rights_told(told_in_all(promises))
    # All rights that no LINE tells come alike: so one of them stands for all.
    rights = rights + tuple(new_names(rights, 1))
    places = list(range(len(promises)))
    brought = [ties_of_all(freed_in(promises, (place,), rights)).homes_that_came() for place in places]
    return [(one, other) for one in places for other in places if one < other and brought[one] == brought[other]]
