"""EVENTS: what was put from outside, what was seen, and whether that could be."""

from touchrights.cities import edge_of_all, emptied, need_ends, told_in_all, with_only
from touchrights.errors import Unfit
from touchrights.forms import as_set, is_name, is_tuple_of, need_lines, need_numbers, tupled, with_part
from touchrights.subsets import least_sets
from touchrights.ties import Ties, rights_told


def is_event(thing):
    if not is_tuple_of(thing, 2) or not isinstance(thing[0], str) or thing[0] not in ("put", "see"):
        return False
    return is_tuple_of(thing[1], 3) and all([is_name(word) for word in thing[1]])


def are_events(thing):
    return isinstance(thing, tuple) and all([is_event(event) for event in thing])


def _home(event):
    """The LINE that tells the HOLD of this EVENT."""
    return ("home",) + event[1]


def _need_event_ends(promises, events):
    need_ends(promises, [hold for _, hold in events])


def _ties_for(promises, events):
    """What follows from the LINES of promises, ahead of all EVENTS, in all rights that are told."""
    lines = told_in_all(promises)
    ties = Ties(edge_of_all(promises), rights_told(lines + tuple([_home(event) for event in events])))
    ties.tell(lines)
    return ties


def _impossible(promises, events):
    """The numbers of each "see" that could not be."""
    ties = _ties_for(promises, events)
    numbers = []
    for number, event in enumerate(events):
        if event[0] == "put":
            ties.tell((_home(event),))
        elif not ties.has_come(_home(event)):
            numbers.append(number)
    return tuple(numbers)


def could_be(promises, events):
    return impossible_sights(promises, events) == ()


def impossible_sights(promises, events):
    promises, events = tupled(promises), tupled(events)
    _need_event_ends(promises, events)
    return _impossible(promises, events)


def first_impossible(promises, events):
    numbers = impossible_sights(promises, events)
    return numbers[0] if numbers else None


def _puts(events):
    return tuple([_home(event) for event in events if event[0] == "put"])


def could_be_seen(promises, events):
    promises, events = tupled(promises), tupled(events)
    _need_event_ends(promises, events)
    ties = _ties_for(promises, events)
    ties.tell(_puts(events))
    return ties.homes_that_came()


def earliest(promises, events, hold):
    promises, events, hold = tupled(promises), tupled(events), tupled(hold)
    sight = ("see", hold)
    _need_event_ends(promises, events + (sight,))
    ties = _ties_for(promises, events + (sight,))
    for many, event in enumerate(events):
        if ties.has_come(_home(sight)):
            return many
        if event[0] == "put":
            ties.tell((_home(event),))
    return len(events) if ties.has_come(_home(sight)) else None


def _comes_after(promises, events, numbers, sight):
    """Whether the "see" could be with the EVENTS of these numbers, all of them put, alone."""
    return not _impossible(promises, tuple([events[number] for number in numbers]) + (sight,))


def _need_sight(promises, events, number):
    """The EVENT has to be a "see" that could be; the numbers of each "put" ahead of it are told."""
    need_numbers(len(events), (number,))
    _need_event_ends(promises, events)
    ahead = [place for place in range(number) if events[place][0] == "put"]
    if events[number][0] != "see" or not _comes_after(promises, events, ahead, events[number]):
        raise Unfit()
    return ahead


def needed_puts(promises, events, number):
    promises, events = tupled(promises), tupled(events)
    ahead = _need_sight(promises, events, number)
    needed = []
    for place in ahead:
        others = [other for other in ahead if other != place]
        if not _comes_after(promises, events, others, events[number]):
            needed.append(place)
    return tuple(needed)


def least_puts(promises, events, number):
    promises, events = tupled(promises), tupled(events)
    ahead = _need_sight(promises, events, number)
    return tuple(least_sets(ahead, lambda some: _comes_after(promises, events, some, events[number])))


def _need_that_they_could_be(promises, events):
    _need_event_ends(promises, events)
    if _impossible(promises, events):
        raise Unfit()


def needed_helpers(promises, events):
    promises, events = tupled(promises), tupled(events)
    _need_that_they_could_be(promises, events)
    needed = []
    for place, (edge, _) in enumerate(promises):
        if _impossible(with_part(promises, place, emptied(edge)), events):
            needed.append(place)
    return tuple(needed)


def least_helpers(promises, events):
    promises, events = tupled(promises), tupled(events)
    _need_that_they_could_be(promises, events)
    places = list(range(len(promises)))
    return tuple(least_sets(places, lambda some: not _impossible(with_only(promises, some), events)))


def needed_lines(drafts, events):
    drafts, events = tupled(drafts), tupled(events)
    for edge, lines in drafts:
        need_lines(edge, lines)
    # All that follows in one draft follows from all LINES together, too: so they need not be closed.
    _need_that_they_could_be(drafts, events)
    pairs = [(place, line) for place, (_, lines) in enumerate(drafts) for line in lines]
    return as_set([pair for pair in pairs if _impossible(_struck(drafts, pair), events)])


def _struck(drafts, pair):
    """The drafts without this LINE at this place."""
    place, line = pair
    edge, lines = drafts[place]
    return with_part(drafts, place, (edge, tuple([other for other in lines if other != line])))
