"""The tests' own doing of DEEDS, their own judging of forms, and BOOKS that they make.

Nothing here asks the package: all is done as ../shared/DOC.md tells it.
"""

import random
import re


def ascending(values):
    return tuple(sorted(set(values)))


# Forms, as the document states them.

def name_ok(thing):
    return type(thing) is str and re.fullmatch("[a-z]{1,8}", thing) is not None


def set_ok(thing, part_ok):
    return type(thing) is tuple and all(part_ok(part) for part in thing) and thing == ascending(thing)


def triple_ok(members, thing):
    if type(thing) is not tuple or len(thing) != 3 or not all(name_ok(part) for part in thing):
        return False
    return thing[0] in members and thing[2] in members


def book_ok(thing):
    if type(thing) is not tuple or len(thing) != 3:
        return False
    if not set_ok(thing[0], name_ok) or not set_ok(thing[1], name_ok) or set(thing[0]) & set(thing[1]):
        return False
    members = set(thing[0] + thing[1])
    return set_ok(thing[2], lambda hold: triple_ok(members, hold))


def deed_ok(thing):
    if type(thing) is not tuple or len(thing) != 5 or type(thing[0]) is not str:
        return False
    if thing[0] in ("take", "hand"):
        return all(name_ok(part) for part in thing[1:])
    if thing[0] != "make" or not name_ok(thing[1]) or not name_ok(thing[2]):
        return False
    return type(thing[3]) is str and thing[3] in ("person", "thing") and set_ok(thing[4], name_ok)


def row_ok(thing):
    return type(thing) is tuple and all(deed_ok(deed) for deed in thing)


# DEEDS, done one by one.

def wants(deed):
    word, person, near, right, what = deed
    if word == "take":
        return {(person, "take", near), (near, right, what)}
    if word == "hand":
        return {(person, "hand", near), (person, right, what)}
    return set()


def gives(deed):
    word, person, near, right, what = deed
    if word == "take":
        return {(person, right, what)}
    if word == "hand":
        return {(near, right, what)}
    return {(person, each, near) for each in what}


def allowed(book, deed):
    people, things, holds = book
    if deed[1] not in people:
        return False
    if deed[0] == "make":
        return deed[2] not in people and deed[2] not in things
    return wants(deed) <= set(holds)


def done(book, deed):
    people, things, holds = book
    if deed[0] == "make" and deed[3] == "person":
        people = ascending(people + (deed[2],))
    if deed[0] == "make" and deed[3] == "thing":
        things = ascending(things + (deed[2],))
    return (people, things, ascending(set(holds) | gives(deed)))


def run(book, deeds, left_out=()):
    """The BOOK behind, the numbers of what was done, the number of the first one that could not be done, or None."""
    numbers, barred = [], None
    for number, deed in enumerate(deeds):
        if number in left_out:
            continue
        if allowed(book, deed):
            book = done(book, deed)
            numbers.append(number)
        elif barred is None:
            barred = number
    return book, tuple(numbers), barred


def brings(book, deeds, hold):
    """Whether the whole row can be done, and the HOLD is there behind it."""
    told, _, barred = run(book, deeds)
    return barred is None and hold in told[2]


def ever(book):
    """The set of the HOLDS of MEMBERS that come in the BOOK.

    Each PERSON makes one THING, to which it holds "take" and "hand"; then all DEEDS are done until nothing new
    comes. What a MEMBER holds is kept as the bits of one number.
    """
    people, things, holds = book
    members = list(people) + list(things)
    names = members + ["made by " + person for person in people]
    rights = sorted({right for _, right, _ in holds} | {"take", "hand"})
    bits = {pair: 1 << k for k, pair in enumerate((right, what) for right in rights for what in names)}
    held = {name: 0 for name in names}
    for who, right, what in holds:
        held[who] |= bits[right, what]
    for person in people:
        held[person] |= bits["take", "made by " + person] | bits["hand", "made by " + person]
    before = None
    while before != held:
        before = dict(held)
        for person in people:
            for near in names:
                if held[person] & bits["take", near]:
                    held[person] |= held[near]
                if held[person] & bits["hand", near]:
                    held[near] |= held[person]
    found = [(who, right, what) for who in members for right in rights for what in members]
    return {hold for hold in found if held[hold[0]] & bits[hold[1], hold[2]]}


def still(book, some):
    """The BOOK in which these PEOPLE are THINGS."""
    return (tuple(n for n in book[0] if n not in some), ascending(book[1] + tuple(some)), book[2])


def side_by_side(one, other):
    return tuple(ascending(one[place] + other[place]) for place in range(3))


def among(holds, members):
    return {hold for hold in holds if hold[0] in members and hold[2] in members}


def with_other_name(value, old, new):
    """The value with new in the place of old wherever it is who or what of a HOLD."""
    swap = {old: new}
    return {(swap.get(who, who), right, swap.get(what, what)) for who, right, what in value}


# BOOKS and rows that are made, always the same ones.

NAMES = ("ann", "b", "bob", "box", "cy", "dan", "hut", "ink", "key", "own", "take", "zed")
RIGHTS = ("take", "take", "hand", "hand", "own")


def random_book(rng, people, things, holds, rights=RIGHTS):
    """A BOOK of so many PEOPLE, THINGS, and at most so many HOLDS."""
    names = rng.sample(NAMES, people + things)
    if not names:
        return ((), (), ())
    some = {(rng.choice(names), rng.choice(rights), rng.choice(names)) for _ in range(holds)}
    return (ascending(names[:people]), ascending(names[people:]), ascending(some))


def random_books(seed, many, most=5, rights=RIGHTS):
    rng = random.Random(seed)
    books = []
    for _ in range(many):
        people, things = rng.randint(0, most - 1), rng.randint(0, most - 1)
        books.append(random_book(rng, people, things, rng.randint(0, 3 * most), rights))
    return books


def small_books():
    """All BOOKS of two MEMBERS and at most three HOLDS, and all with one MEMBER."""
    books = [((), (), ())]
    for members in (("a",), ("a", "b")):
        pairs = [(who, right, what) for who in members for right in ("take", "hand", "own") for what in members]
        lots = [()] + [(p,) for p in pairs] + [(p, q) for p in pairs for q in pairs if p < q]
        lots += [(p, q, r) for p in pairs for q in pairs for r in pairs if p < q < r]
        for number in range(2 ** len(members)):
            people = tuple(name for k, name in enumerate(members) if number >> k & 1)
            things = tuple(name for name in members if name not in people)
            books += [(people, things, ascending(lot)) for lot in lots]
    return books


def random_deed(rng, book, new=("n", "nn", "nnn")):
    """Some DEED, mostly one that may be done."""
    people, things, holds = book
    members = people + things
    choices = []
    for who, right, what in holds:
        if who in people and right == "take":
            choices += [("take", who, what, hold[1], hold[2]) for hold in holds if hold[0] == what]
        if who in people and right == "hand":
            choices += [("hand", who, what, hold[1], hold[2]) for hold in holds if hold[0] == who]
    kind = rng.randint(0, 9)
    if choices and kind < 6:
        return rng.choice(sorted(choices))
    if people and kind < 9:
        rights = ascending(rng.sample(("hand", "own", "take"), rng.randint(0, 3)))
        return ("make", rng.choice(people), rng.choice(new), rng.choice(("person", "thing")), rights)
    names = members + ("nobody",)
    return (rng.choice(("take", "hand")), rng.choice(names), rng.choice(names), "own", rng.choice(names))


def random_row(rng, book, length, sure=False, new=("n", "nn", "nnn")):
    """A row of DEEDS; if it is to be sure, each of them may be done."""
    deeds, told = [], book
    for _ in range(length):
        deed = random_deed(rng, told, new)
        fits = allowed(told, deed)
        if fits or not sure:
            deeds.append(deed)
        if fits:
            told = done(told, deed)
    return tuple(deeds)


def great_book():
    """A BOOK at the bounds: 24 PEOPLE, 24 THINGS, 120 HOLDS, its PEOPLE all in one long row of touches."""
    people = ascending("p" + "abcdefghijklmnopqrstuvwx"[k] for k in range(24))
    things = ascending("t" + "abcdefghijklmnopqrstuvwx"[k] for k in range(24))
    holds = []
    for k in range(23):
        one, two = (people[k], people[k + 1])
        ways = (
            [(one, "take", two)],
            [(two, "take", one)],
            [(one, "hand", things[k]), (two, "take", things[k])],
            [(two, "hand", things[k]), (one, "take", things[k])],
        )
        holds += ways[k % 4]
    holds += [(people[0], "own", things[23]), (people[23], "hand", things[22])]
    rest = [(thing, "see", other) for thing in things for other in things]
    return (people, things, ascending(holds + rest[:120 - len(holds)]))
