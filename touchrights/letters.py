"""HOUSES and their LETTERS."""

from touchrights.books import beside, is_book, with_hold, without_hold
from touchrights.deeds import is_row_for
from touchrights.errors import Unfit
from touchrights.ever import deeds_for
from touchrights.forms import (
    as_set, ascends, is_name, is_set_of_names, is_tuple_of, lies_among, need_members, new_names, tupled,
)
from touchrights.touches import Web

MARK = "mark"


def is_house(thing):
    if not is_tuple_of(thing, 2):
        return False
    book, border = thing
    if not (is_book(book) and is_set_of_names(border)):
        return False
    return lies_among(border, book[0] + book[1])


def edge_of(house):
    book, border = tupled(house)
    return tuple([tuple([name for name in sort if name in border]) for sort in book[:2]])


def inner_of(house):
    book, border = tupled(house)
    return tuple([tuple([name for name in sort if name not in border]) for sort in book[:2]])


def is_line(edge, thing):
    people, things = tupled(edge)
    return _is_line_among({name: True for name in people + things}, thing)


def _is_line_among(names, thing):
    if not (is_tuple_of(thing, 3) or is_tuple_of(thing, 4)) or not all([isinstance(word, str) for word in thing]):
        return False
    if thing[1] not in names or thing[-1] not in names:
        return False
    if len(thing) == 4:
        return is_name(thing[2]) and _may_have_right(thing[0], thing[1], thing[2], thing[3])
    return _may_have_pair(thing[0], thing[1], thing[2])


def _may_have_right(word, one, right, other):
    if word == "has":
        return right != "take" or one != other
    return word in ("home", "puts")


def _may_have_pair(word, one, other):
    if word in ("takes", "flows"):
        return one != other
    if word in ("meets", "both"):
        return one <= other
    return word == "hands"


def is_lines(edge, thing):
    people, things = tupled(edge)
    names = {name: True for name in people + things}
    if not isinstance(thing, tuple):
        return False
    return all([_is_line_among(names, line) for line in thing]) and ascends(thing)


def lines_of(edge, rights):
    people, things = tupled(edge)
    pairs = [(one, other) for one in people + things for other in people + things]
    lines = []
    for one, other in pairs:
        for word in ("home", "has", "puts"):
            lines += [(word, one, right, other) for right in rights if _may_have_right(word, one, right, other)]
        for word in ("takes", "hands", "meets", "flows", "both"):
            lines += [(word, one, other)] if _may_have_pair(word, one, other) else []
    return as_set(lines)


def letter_of(house):
    book, border = tupled(house)
    web = Web(book)
    circles = web.circle_knots()
    lines = _lines_inside(book, border, circles) + _lines_of_strangers(web, border, circles)
    return as_set(lines)


def _lines_inside(book, border, circles):
    """The LINES that tell of no stranger."""
    lines = [("home", who, right, what) for who, right, what in book[2] if who in border and what in border]
    for circle in circles:
        getting = [name for name in border if circle.can_get(name)]
        reached = [name for name in border if name in circle.reached]
        pairs = [(right, what) for right, what in circle.pairs if what in border]
        lines += [("home", name, right, what) for name in getting for right, what in pairs]
        lines += [("puts", name, right, what) for name in reached for right, what in pairs]
        lines += [("flows", name, other) for name in reached for other in getting if name != other]
        lines += [("both", name, other) for name in reached for other in reached if name <= other]
    return lines


def _lines_of_strangers(web, border, circles):
    """The LINES that tell of strangers who hold "take" to names of the border."""
    lines = []
    alone = {name: web.knot(name, {}) for name in border}
    met = {name: [circle for circle in circles if circle.touches(alone[name])] for name in border}
    for name in border:
        stranger = _all_joined(alone[name], met[name])
        pairs = [(right, what) for right, what in stranger.pairs if what in border]
        lines += [("has", name, right, what) for right, what in pairs if _may_have_right("has", name, right, what)]
        lines += [("takes", name, other) for other in border if other != name and other in stranger.reached]
        lines += [("hands", name, other) for other in border if stranger.can_get(other)]
        lines += [("meets", name, other) for other in border if name <= other and alone[other].touches(stranger)]
    return lines


def _all_joined(knot, others):
    for other in others:
        knot = knot.joined(other)
    return knot


def _need_line(house, line):
    need_members(house[1], (line[1], line[-1]))


def has_line(house, line):
    house, line = tupled(house), tupled(line)
    _need_line(house, line)
    return line in letter_of(house)


def question_of(house, line):
    house, line = tupled(house), tupled(line)
    _need_line(house, line)
    return question_with(edge_of(house), house[0][0] + house[0][1], line)


def question_with(edge, taken, line):
    """The OUTSIDE and the HOLD that ask for this LINE, with no new NAME among those taken."""
    first, second, toy = new_names(taken, 3)
    people, things, holds, marker, getter = _asking(line, first, second)
    if marker is None:
        return (_widened(edge, people, things, holds), (getter, line[2], line[3]))
    outside = _widened(edge, people, things + [toy], holds + [(marker, MARK, toy)])
    return (outside, (getter, MARK, toy))


def _asking(line, first, second):
    """What the table of LINES tells: new PEOPLE, THINGS, HOLDS; who holds the mark, if any; who ought to get it."""
    one, other = line[1], line[-1]
    take, hand = (first, "take", one), (one, "hand", first)
    table = {
        "home": ([], [], [], None, one),
        "has": ([first], [], [take], None, first),
        "puts": ([], [first], [hand], None, first),
        "takes": ([first], [], [take], other, first),
        "hands": ([first], [], [take], first, other),
        "meets": ([first, second], [], [take, (second, "take", other)], second, first),
        "flows": ([], [], [], one, other),
        "both": ([], [first], [hand], other, first),
    }
    return table[line[0]]


def _widened(edge, people, things, holds):
    """The BOOK of an EDGE and new MEMBERS, with just these HOLDS."""
    return (as_set(edge[0] + tuple(people)), as_set(edge[1] + tuple(things)), as_set(holds))


def shown_by(house, line):
    house = tupled(house)
    outside, hold = question_of(house, line)
    return deeds_for(beside(house[0], outside), hold)


def is_shown_by(house, line, thing):
    house = tupled(house)
    outside, hold = question_of(house, line)
    return is_row_for(beside(house[0], outside), hold, thing)


def gained(house, hold):
    book, border = tupled(house)
    more = with_hold(book, hold)
    return tuple(sorted(set(letter_of((more, border))) - set(letter_of((book, border)))))


def needed_holds(house, line):
    book, border = tupled(house)
    line = tupled(line)
    if not has_line((book, border), line):
        raise Unfit()
    return tuple([hold for hold in book[2] if not has_line((without_hold(book, hold), border), line)])
