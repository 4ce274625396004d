"""CITIES: plots put beside one another, and what HOUSES let that stand for them."""

from itertools import combinations

from touchrights.books import common_members
from touchrights.errors import Unfit
from touchrights.follows import is_edge, is_plot, lines_that_come, ties_of
from touchrights.forms import as_set, is_tuple_of, lies_among, need_members, need_numbers, tupled, with_part
from touchrights.letters import edge_of, is_house, letter_of
from touchrights.models import house_for
from touchrights.subsets import fewest_of, least_sets


def is_city(thing):
    if not isinstance(thing, tuple) or not all([is_plot(plot) for plot in thing]):
        return False
    return is_edge(edge_of_all(thing))


def edge_of_all(plots):
    """The EDGE with all NAMES of these plots."""
    sorts = [[name for edge, _ in plots for name in edge[sort]] for sort in range(2)]
    return (as_set(sorts[0]), as_set(sorts[1]))


def names_of_all(plots):
    people, things = edge_of_all(plots)
    return people + things


def told_in_all(plots):
    """The set of the LINES of these plots."""
    return as_set([line for _, lines in plots for line in lines])


def ties_of_all(plots, more=()):
    """All that comes, in HOUSES with the LINES of these plots put beside one another, if more LINES are told."""
    return ties_of(edge_of_all(plots), told_in_all(plots) + more)


def comes_in_all(plots, hold, more=()):
    return all_come_in_all(plots, (hold,), more)


def all_come_in_all(plots, holds, more=()):
    """Whether each of these HOLDS comes."""
    ties = ties_of_all(plots, more)
    return all([ties.has_come(("home",) + hold) for hold in holds])


def letter_of_all(plots):
    return lines_that_come(edge_of_all(plots), told_in_all(plots))


def need_ends(plots, holds):
    """Both ends of each of these HOLDS are NAMES of these plots."""
    names = names_of_all(plots)
    for hold in holds:
        need_members(names, (hold[0], hold[2]))


def city_edge(city):
    return edge_of_all(tupled(city))


def city_of(houses):
    houses = tupled(houses)
    if not stand_apart(houses):
        raise Unfit()
    city = tuple([(edge_of(house), letter_of(house)) for house in houses])
    if not is_edge(edge_of_all(city)):
        raise Unfit()
    return city


def stand_apart(houses):
    """Whether no two of these HOUSES have MEMBERS in common but NAMES of both borders."""
    rows = list(houses)
    for one, other in combinations(rows, 2):
        common = common_members(one[0], other[0])
        if not (lies_among(common, one[1]) and lies_among(common, other[1])):
            return False
    return True


def all_lines(city):
    return letter_of_all(tupled(city))


def city_letter(city, border):
    city, border = tupled(city), tupled(border)
    need_members(names_of_all(city), border)
    return _plot_at(edge_of_all(city), letter_of_all(city), border)


def _plot_at(edge, lines, names):
    """The plot with these NAMES alone."""
    sorts = [tuple([name for name in sort if name in names]) for sort in edge]
    return ((sorts[0], sorts[1]), tuple([line for line in lines if line[1] in names and line[-1] in names]))


def city_lets(city, hold):
    city, hold = tupled(city), tupled(hold)
    need_ends(city, (hold,))
    return comes_in_all(city, hold)


def city_holds(city):
    return ties_of_all(tupled(city)).homes_that_came()


def cut_out(edge, lines, name):
    edge, lines = tupled(edge), tupled(lines)
    need_members(edge[0] + edge[1], (name,))
    return _plot_at(edge, lines, [other for other in edge[0] + edge[1] if other != name])


def joined_plots(city, number, other):
    city = tupled(city)
    need_numbers(len(city), (number, other))
    if number == other:
        raise Unfit()
    both = (city[number], city[other])
    plots = list(with_part(city, number, (edge_of_all(both), letter_of_all(both))))
    del plots[other]
    return tuple(plots)


def emptied(edge):
    edge = tupled(edge)
    return (edge, lines_that_come(edge, ()))


def neighbours(city, number):
    city = tupled(city)
    need_numbers(len(city), (number,))
    names = names_of_all((city[number],))
    others = [place for place in range(len(city)) if place != number]
    return tuple([place for place in others if _names_among(city[place], names)])


def _names_among(plot, names):
    """Those of the NAMES of a plot that are among these."""
    return [name for name in names_of_all((plot,)) if name in names]


def surroundings(city, number):
    city = tupled(city)
    need_numbers(len(city), (number,))
    return _surroundings_of(city, number)


def _surroundings_of(city, number):
    others = city[:number] + city[number + 1:]
    common = _names_among(city[number], names_of_all(others))
    return _plot_at(edge_of_all(others), letter_of_all(others), common)


def changed_for(city, number, lines):
    city, lines = tupled(city), tupled(lines)
    need_numbers(len(city), (number,))
    changed = with_part(city, number, (city[number][0], lines))
    others = [place for place in range(len(city)) if place != number]
    return tuple([place for place in others if _surroundings_of(city, place) != _surroundings_of(changed, place)])


def with_only(city, some):
    """The CITY with all plots emptied but those at these places."""
    return tuple([plot if place in some else emptied(plot[0]) for place, plot in enumerate(city)])


def _without(city, place):
    return with_part(city, place, emptied(city[place][0]))


def brings_it(city, some, hold):
    city, hold = tupled(city), tupled(hold)
    need_numbers(len(city), some)
    need_ends(city, (hold,))
    return comes_in_all(with_only(city, some), hold)


def _need_that_it_comes(city, hold):
    need_ends(city, (hold,))
    if not comes_in_all(city, hold):
        raise Unfit()


def needed_places(city, hold):
    city, hold = tupled(city), tupled(hold)
    _need_that_it_comes(city, hold)
    return tuple([place for place in range(len(city)) if not comes_in_all(_without(city, place), hold)])


def fewest_places(city, hold):
    city, hold = tupled(city), tupled(hold)
    _need_that_it_comes(city, hold)
    places = list(range(len(city)))
    return fewest_of(least_sets(places, lambda some: comes_in_all(with_only(city, some), hold)))


def idle_places(city, border):
    city, border = tupled(city), tupled(border)
    whole = city_letter(city, border)
    return tuple([place for place in range(len(city)) if city_letter(_without(city, place), border) == whole])


def houses_for(city):
    return houses_with(tupled(city))


def houses_with(city):
    """A MODEL for each plot, no two with inner NAMES in common."""
    taken = {name: True for name in names_of_all(city)}
    houses = []
    for edge, lines in city:
        house = house_for(edge, lines, taken)
        houses.append(house)
        for name in house[0][0] + house[0][1]:
            taken[name] = True
    return tuple(houses)


def are_houses_at(edges, thing):
    """Whether thing is a tuple of HOUSES, one with each of these EDGES, that stand apart."""
    if not is_tuple_of(thing, len(edges)) or not all([is_house(house) for house in thing]):
        return False
    return all([edge_of(house) == edge for house, edge in zip(thing, edges)]) and stand_apart(thing)


def is_houses_for(city, thing):
    city = tupled(city)
    if not are_houses_at([edge for edge, _ in city], thing):
        return False
    return all([letter_of(house) == lines for house, (_, lines) in zip(thing, city)])
