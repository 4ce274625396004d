"""BOOKS: who holds which right to whom."""

from touchrights.errors import NoHold, Twice, Unfit
from touchrights.forms import (
    as_set, ascends, is_hold_among, is_name, is_set_of_names, is_tuple_of, lies_among, need_members, tupled,
)


def is_book(thing):
    if not is_tuple_of(thing, 3):
        return False
    people, things, holds = thing
    if not (is_set_of_names(people) and is_set_of_names(things)):
        return False
    members = {name: True for name in people + things}
    if len(members) < len(people) + len(things):
        return False
    return _is_set_of_holds(members, holds)


def _is_set_of_holds(members, thing):
    if not isinstance(thing, tuple):
        return False
    return all([is_hold_among(members, hold) for hold in thing]) and ascends(thing)


def is_hold(book, thing):
    return thing in tupled(book)[2]


def members_of(book):
    people, things, _ = tupled(book)
    return as_set(people + things)


def is_person(book, name):
    book = tupled(book)
    need_members(members_of(book), (name,))
    return name in book[0]


def rights_in(book):
    return as_set([hold[1] for hold in tupled(book)[2]])


def holds_of(book, name):
    book = tupled(book)
    need_members(members_of(book), (name,))
    return as_set([(right, what) for who, right, what in book[2] if who == name])


def held_to(book, name):
    book = tupled(book)
    need_members(members_of(book), (name,))
    return as_set([(who, right) for who, right, what in book[2] if what == name])


def with_person(book, name):
    people, things, holds = tupled(book)
    _need_new(people + things, name)
    return (as_set(people + (name,)), things, holds)


def with_thing(book, name):
    people, things, holds = tupled(book)
    _need_new(people + things, name)
    return (people, as_set(things + (name,)), holds)


def _need_new(members, name):
    if not is_name(name):
        raise Unfit()
    if name in members:
        raise Twice(name)


def with_hold(book, hold):
    people, things, holds = tupled(book)
    hold = tupled(hold)
    need_members(people + things, (hold[0], hold[2]))
    if not is_name(hold[1]):
        raise Unfit()
    return (people, things, as_set(holds + (hold,)))


def without_hold(book, hold):
    people, things, holds = tupled(book)
    hold = tupled(hold)
    need_members(people + things, (hold[0], hold[2]))
    if hold not in holds:
        raise NoHold(hold)
    return (people, things, tuple([other for other in holds if other != hold]))


def without_member(book, name):
    book = tupled(book)
    members = members_of(book)
    need_members(members, (name,))
    return part_of(book, [other for other in members if other != name])


def part_of(book, some):
    people, things, holds = tupled(book)
    need_members(people + things, some)
    return (
        tuple([name for name in people if name in some]),
        tuple([name for name in things if name in some]),
        tuple([hold for hold in holds if hold[0] in some and hold[2] in some]),
    )


def renamed(book, old, new):
    people, things, holds = tupled(book)
    need_members(people + things, (old,))
    _need_new([name for name in people + things if name != old], new)
    return (
        as_set([_new_for(name, old, new) for name in people]),
        as_set([_new_for(name, old, new) for name in things]),
        as_set([(_new_for(who, old, new), right, _new_for(what, old, new)) for who, right, what in holds]),
    )


def _new_for(name, old, new):
    return new if name == old else name


def turned_still(book, some):
    people, things, holds = tupled(book)
    need_members(people + things, some)
    return (tuple([name for name in people if name not in some]), as_set(things + tupled(some)), holds)


def turned_alive(book, some):
    people, things, holds = tupled(book)
    need_members(people + things, some)
    return (as_set(people + tupled(some)), tuple([name for name in things if name not in some]), holds)


def beside(one, other):
    one, other = tupled(one), tupled(other)
    people, things, holds = [as_set(one[place] + other[place]) for place in range(3)]
    if len(set(people) & set(things)) > 0:
        raise Unfit()
    return (people, things, holds)


def common_members(one, other):
    return tuple(sorted(set(members_of(one)) & set(members_of(other))))


def lies_in(one, other):
    one, other = tupled(one), tupled(other)
    return all([lies_among(one[place], other[place]) for place in range(3)])
