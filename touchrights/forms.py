"""The forms of values, and the checks, that all points share."""

from touchrights.errors import NoMember, NoNumber

LETTERS = "abcdefghijklmnopqrstuvwxyz"
LONGEST_NAME = 8


def tupled(value):
    """The value with tuples in the place of its lists, at any depth."""
    if isinstance(value, (list, tuple)):
        return tuple([tupled(part) for part in value])
    return value


def with_part(rows, place, part):
    """The tuple with this part at this place."""
    return rows[:place] + (part,) + rows[place + 1:]


def as_set(rows):
    return tuple(sorted(set(rows)))


def ascends(rows):
    return all([rows[place] < rows[place + 1] for place in range(len(rows) - 1)])


def lies_among(rows, others):
    return len(set(rows) - set(others)) == 0


def is_tuple_of(thing, many):
    return isinstance(thing, tuple) and len(thing) == many


def is_number(thing):
    return isinstance(thing, int) and not isinstance(thing, bool)


def is_name(thing):
    # The letters are told one by one: isalpha and islower would take signs beyond a to z.
    if not isinstance(thing, str) or not 1 <= len(thing) <= LONGEST_NAME:
        return False
    return all([sign in LETTERS for sign in thing])


def is_set_of_names(thing):
    if not isinstance(thing, tuple):
        return False
    return all([is_name(name) for name in thing]) and ascends(thing)


def is_hold_among(members, thing):
    if not (is_tuple_of(thing, 3) and all([is_name(word) for word in thing])):
        return False
    return thing[0] in members and thing[2] in members


def need_members(members, names):
    for name in names:
        if name not in members:
            raise NoMember(name)


def need_lines(edge, lines):
    """Each LINE tells of NAMES of the EDGE alone."""
    for line in lines:
        need_members(edge[0] + edge[1], (line[1], line[-1]))


def need_numbers(many, numbers):
    for number in numbers:
        if not 0 <= number < many:
            raise NoNumber(number)


def new_names(taken, many):
    """So many NAMES, always the same ones, none of them among those taken."""
    names = []
    number = 0
    while len(names) < many:
        name = _spelled(number)
        if name not in taken:
            names.append(name)
        number += 1
    return names


def _spelled(number):
    signs = LETTERS[number % 26]
    while number >= 26:
        number = number // 26
        signs = LETTERS[number % 26] + signs
    return signs
