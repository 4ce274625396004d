"""Secrets: which bands of HOUSES reach the THINGS in which their pieces lie."""

from touchrights.books import beside, turned_still
from touchrights.deeds import behind, first_barred, is_row_of_deeds
from touchrights.errors import NoMember, Unfit
from touchrights.ever import deeds_for
from touchrights.forms import as_set, need_members, need_numbers, tupled
from touchrights.letters import edge_of, letter_of
from touchrights.subsets import fewest_of, greatest_sets, least_sets, without_these
from touchrights.touches import Web


def acting(houses, some):
    houses = tupled(houses)
    need_numbers(len(houses), some)
    return _band(houses, some)


def _band(houses, some):
    return as_set([name for place in some for name in houses[place][0][0]])


def still_plot(house, names):
    house = tupled(house)
    people, things, _ = house[0]
    need_members(people + things, names)
    if any([name in things for name in names]):
        raise Unfit()
    return _plot_with(house, names)


def _plot_with(house, actors):
    """The plot of the HOUSE if, of its PEOPLE, just those among actors act."""
    book, border = house
    turned = (turned_still(book, [name for name in book[0] if name not in actors]), border)
    return (edge_of(turned), letter_of(turned))


def plots_by(houses, some):
    houses = tupled(houses)
    need_numbers(len(houses), some)
    band = _band(houses, some)
    return tuple([_plot_with(house, band) for house in houses])


def _all_together(houses):
    book = ((), (), ())
    for house in houses:
        book = beside(book, house[0])
    return book


def _with_band(houses, some):
    """The BOOK of all HOUSES put together in which just the PEOPLE of the band are PEOPLE."""
    book = _all_together(houses)
    band = _band(houses, some)
    return turned_still(book, [name for name in book[0] if name not in band])


def _reached_things(houses, some):
    """All that the band ever comes to hold "take" to, as a dict that keeps for each the first PERSON who can.

    It is what the PEOPLE reach at first: what they do brings them nothing further that way.
    """
    book = _with_band(houses, some)
    web = Web(book)
    found = {}
    for person in book[0]:
        for name in web.reached_from(person):
            found.setdefault(name, person)
    return found


def _need_border_things(houses, names):
    borders = {name: True for house in houses for name in house[1]}
    for name in names:
        if name not in borders:
            raise NoMember(name)
    people = {name: True for house in houses for name in house[0][0]}
    if any([name in people for name in names]):
        raise Unfit()


def _need_places_and_things(houses, some, names):
    need_numbers(len(houses), some)
    _need_border_things(houses, names)


def reaches_by(houses, some, name):
    houses = tupled(houses)
    _need_places_and_things(houses, some, (name,))
    return name in _reached_things(houses, some)


def opening_row(houses, some, name):
    houses = tupled(houses)
    _need_places_and_things(houses, some, (name,))
    reached = _reached_things(houses, some)
    if name not in reached:
        return None
    return deeds_for(_with_band(houses, some), (reached[name], "take", name))


def is_opening_row(houses, some, name, thing):
    houses = tupled(houses)
    _need_places_and_things(houses, some, (name,))
    book = _with_band(houses, some)
    if not is_row_of_deeds(thing) or first_barred(book, thing) is not None:
        return False
    holds = {hold: True for hold in behind(book, thing)[2]}
    return any([(person, "take", name) in holds for person in book[0]])


class Keys:
    """For each HOUSE what its band reaches by itself: several bands together reach just what each of them does."""

    def __init__(self, houses):
        self.places = list(range(len(houses)))
        self.reached = [_reached_things(houses, (place,)) for place in self.places]

    def opens(self, some, secret):
        return all([any([name in self.reached[place] for place in some]) for name in secret])

    def least_openers(self, places, secret):
        return least_sets(places, lambda some: self.opens(some, secret))

    def hindered(self, readers, secret):
        """What hinders these readers from reading the secret alone; None if nothing does."""
        for place in readers:
            if not self.opens((place,), secret):
                return (place,)
        return fewest_of(self.least_openers(without_these(self.places, readers), secret))


def opens(houses, some, secret):
    houses = tupled(houses)
    _need_places_and_things(houses, some, secret)
    return Keys(houses).opens(some, secret)


def least_openers(houses, secret):
    houses = tupled(houses)
    _need_border_things(houses, secret)
    keys = Keys(houses)
    return keys.least_openers(keys.places, secret)


def greatest_shut(houses, secret):
    houses = tupled(houses)
    _need_border_things(houses, secret)
    keys = Keys(houses)
    shut = greatest_sets(keys.places, lambda some: not keys.opens(some, secret))
    return max([len(some) for some in shut]) if shut else None


def may_read(houses, readers, secret):
    return hindered_by(houses, readers, secret) is None


def hindered_by(houses, readers, secret):
    houses = tupled(houses)
    _need_places_and_things(houses, readers, secret)
    return Keys(houses).hindered(readers, secret)


def reading_things(houses, readers):
    houses = tupled(houses)
    need_numbers(len(houses), readers)
    keys = Keys(houses)
    things = as_set([name for house in houses for name in house[1] if name in house[0][1]])
    return tuple([name for name in things if keys.hindered(readers, (name,)) is None])
