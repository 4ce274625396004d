"""Offers: HOLDS between NAMES of a CITY, and what comes with some of them."""

from itertools import combinations

from touchrights.cities import comes_in_all, edge_of_all, need_ends, ties_of_all
from touchrights.follows import lines_that_come
from touchrights.forms import tupled
from touchrights.subsets import fewest_of, greatest_sets, least_sets, without_these


def _lines_for(offers):
    return tuple([("home",) + offer for offer in offers])


def _comes(city, offers, hold):
    return comes_in_all(city, hold, _lines_for(offers))


def _all_stay_away(city, offers, holds):
    ties = ties_of_all(city, _lines_for(offers))
    return not any([ties.has_come(("home",) + hold) for hold in holds])


def offered_city(city, offers):
    city, offers = tupled(city), tupled(offers)
    need_ends(city, offers)
    plots = []
    for offer in offers:
        edge = _edge_at(city, offer)
        plots.append((edge, lines_that_come(edge, _lines_for((offer,)))))
    return city + tuple(plots)


def _edge_at(city, offer):
    """The EDGE with the NAMES of the offer alone."""
    people, things = edge_of_all(city)
    names = (offer[0], offer[2])
    return (tuple([name for name in people if name in names]), tuple([name for name in things if name in names]))


def comes_with(city, offers, hold):
    city, offers, hold = tupled(city), tupled(offers), tupled(hold)
    need_ends(city, offers + (hold,))
    return _comes(city, offers, hold)


def opened_with(city, offers):
    city, offers = tupled(city), tupled(offers)
    need_ends(city, offers)
    before, after = ties_of_all(city), ties_of_all(city, _lines_for(offers))
    return tuple([hold for hold in after.homes_that_came() if not before.has_come(("home",) + hold)])


def is_safe(city, offers, holds):
    city, offers, holds = tupled(city), tupled(offers), tupled(holds)
    need_ends(city, offers + holds)
    return _all_stay_away(city, offers, holds)


def safe_offers(city, offers, holds):
    city, offers, holds = tupled(city), tupled(offers), tupled(holds)
    need_ends(city, offers + holds)
    return tuple([offer for offer in offers if _all_stay_away(city, (offer,), holds)])


def clashing_offers(city, offers, holds):
    city, holds = tupled(city), tupled(holds)
    safe = list(safe_offers(city, offers, holds))
    return tuple([pair for pair in combinations(safe, 2) if not _all_stay_away(city, pair, holds)])


def greatest_safe(city, offers, holds):
    city, offers, holds = tupled(city), tupled(offers), tupled(holds)
    need_ends(city, offers + holds)
    return greatest_sets(offers, lambda some: _all_stay_away(city, some, holds))


def all_least_offers(city, offers, hold):
    city, offers, hold = tupled(city), tupled(offers), tupled(hold)
    need_ends(city, offers + (hold,))
    return least_sets(offers, lambda some: _comes(city, some, hold))


def fewest_offers(city, offers, hold):
    return fewest_of(all_least_offers(city, offers, hold))


def needed_offers(city, offers, hold):
    city, offers, hold = tupled(city), tupled(offers), tupled(hold)
    need_ends(city, offers + (hold,))
    if not _comes(city, offers, hold):
        return None
    return tuple([offer for offer in offers if not _comes(city, without_these(offers, (offer,)), hold)])


def all_least_seals(city, offers, hold):
    city, offers, hold = tupled(city), tupled(offers), tupled(hold)
    need_ends(city, offers + (hold,))
    return least_sets(offers, lambda some: not _comes(city, without_these(offers, some), hold))


def fewest_seals(city, offers, hold):
    return fewest_of(all_least_seals(city, offers, hold))
