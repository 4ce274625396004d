"""HOUSES not wholly known: what comes in all, in some HOUSES between what is sure and what is promised."""

from touchrights.cities import all_come_in_all, comes_in_all, is_city, need_ends
from touchrights.errors import Unfit
from touchrights.follows import lines_that_come
from touchrights.forms import lies_among, need_numbers, tupled, with_part
from touchrights.subsets import least_sets


def _need_between(city, promises, numbers, holds):
    need_numbers(len(city), numbers)
    need_ends(city, holds)
    if [edge for edge, _ in city] != [edge for edge, _ in promises]:
        raise Unfit()
    if not all([lies_among(sure[1], most[1]) for sure, most in zip(city, promises)]):
        raise Unfit()


def fits_between(city, promises, number, lines):
    city, promises, lines = tupled(city), tupled(promises), tupled(lines)
    _need_between(city, promises, (number,), ())
    return _lies_between(city[number], promises[number], lines)


def _lies_between(sure, most, lines):
    return lies_among(sure[1], lines) and lies_among(lines, most[1])


def unsure_places(city, promises):
    city, promises = tupled(city), tupled(promises)
    _need_between(city, promises, (), ())
    return tuple([place for place in range(len(city)) if city[place] != promises[place]])


def surely_lets(city, promises, hold):
    city, promises, hold = tupled(city), tupled(promises), tupled(hold)
    _need_between(city, promises, (), (hold,))
    return comes_in_all(city, hold)


def maybe_lets(city, promises, hold):
    city, promises, hold = tupled(city), tupled(promises), tupled(hold)
    _need_between(city, promises, (), (hold,))
    return comes_in_all(promises, hold)


def told_more(city, promises, number, line):
    city, promises, line = tupled(city), tupled(promises), tupled(line)
    _need_between(city, promises, (number,), ())
    if line not in promises[number][1]:
        raise Unfit()
    edge, lines = city[number]
    return with_part(city, number, (edge, lines_that_come(edge, lines + (line,))))


def _unsure_lines(city, promises):
    """The pairs (number, line), ascending, of a LINE in promises that city has not."""
    return [(place, line) for place, (_, lines) in enumerate(promises) for line in lines if line not in city[place][1]]


def deciding_lines(city, promises, hold):
    city, promises, hold = tupled(city), tupled(promises), tupled(hold)
    _need_between(city, promises, (), (hold,))
    if comes_in_all(city, hold):
        return []
    return [pair for pair in _unsure_lines(city, promises) if comes_in_all(city, hold, pair[1:])]


def _mixed(one, other, some):
    """The CITY with the plots of other at these places, those of one elsewhere."""
    return tuple([other[place] if place in some else one[place] for place in range(len(one))])


def least_if(city, promises, hold):
    city, promises, hold = tupled(city), tupled(promises), tupled(hold)
    _need_between(city, promises, (), (hold,))
    places = list(range(len(city)))
    return least_sets(places, lambda some: comes_in_all(_mixed(city, promises, some), hold))


def least_unless(city, promises, hold):
    city, promises, hold = tupled(city), tupled(promises), tupled(hold)
    _need_between(city, promises, (), (hold,))
    places = list(range(len(city)))
    return least_sets(places, lambda some: not comes_in_all(_mixed(promises, city, some), hold))


def least_lines_if(city, promises, hold):
    city, promises, hold = tupled(city), tupled(promises), tupled(hold)
    _need_between(city, promises, (), (hold,))
    pairs = _unsure_lines(city, promises)
    return least_sets(pairs, lambda some: comes_in_all(city, hold, tuple([line for _, line in some])))


def surely_more(city, promises, sights):
    city, promises, sights = tupled(city), tupled(promises), tupled(sights)
    _need_between(city, promises, (), sights)
    if not all_come_in_all(promises, sights):
        raise Unfit()
    wanted = []
    for place in range(len(city)):
        if not all_come_in_all(_mixed(promises, city, (place,)), sights):
            wanted.append(place)
    return tuple(wanted)


def letting_city(city, promises, sights, some):
    city, promises, sights = tupled(city), tupled(promises), tupled(sights)
    _need_between(city, promises, some, sights)
    mixed = _mixed(city, promises, some)
    return mixed if all_come_in_all(mixed, sights) else None


def is_letting_city(city, promises, sights, some, thing):
    city, promises, sights = tupled(city), tupled(promises), tupled(sights)
    _need_between(city, promises, some, sights)
    if not is_city(thing) or [edge for edge, _ in thing] != [edge for edge, _ in city]:
        return False
    for place, plot in enumerate(thing):
        most = promises[place] if place in some else city[place]
        if not _lies_between(city[place], most, plot[1]):
            return False
    return all_come_in_all(thing, sights)
