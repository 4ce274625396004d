"""HOUSES beside OUTSIDES: what they let, and which of them lets more."""

from touchrights.books import beside, common_members, is_book, turned_still, without_hold
from touchrights.errors import Unfit
from touchrights.ever import can_ever, closed_table
from touchrights.forms import is_hold_among, is_tuple_of, lies_among, need_members, tupled
from touchrights.letters import edge_of, inner_of, letter_of, question_with


def is_outside(house, thing):
    book, border = tupled(house)
    if not is_book(thing) or common_members(book, thing) != border:
        return False
    return all([(name in book[0]) == (name in thing[0]) for name in border])


def put_beside(house, outside):
    house, outside = tupled(house), tupled(outside)
    if not is_outside(house, outside):
        raise Unfit()
    return beside(house[0], outside)


def lets(house, outside, hold):
    outside, hold = tupled(outside), tupled(hold)
    need_members(outside[0] + outside[1], (hold[0], hold[2]))
    return can_ever(put_beside(house, outside), hold)


def brought_outside(house, outside):
    outside = tupled(outside)
    both = closed_table(put_beside(house, outside))[2]
    members = {name: True for name in outside[0] + outside[1]}
    let = [hold for hold in both if hold[0] in members and hold[2] in members]
    return tuple(sorted(set(let) - set(closed_table(outside)[2])))


def _need_one_edge(one, other):
    if edge_of(one) != edge_of(other):
        raise Unfit()


def lets_no_more(one, other):
    _need_one_edge(one, other)
    return lies_among(letter_of(one), letter_of(other))


def alike_outside(one, other):
    _need_one_edge(one, other)
    return letter_of(one) == letter_of(other)


def telling_outside(one, other):
    one, other = tupled(one), tupled(other)
    _need_one_edge(one, other)
    more = sorted(set(letter_of(one)) - set(letter_of(other)))
    if not more:
        return None
    taken = one[0][0] + one[0][1] + other[0][0] + other[0][1]
    return question_with(edge_of(one), taken, more[0])


def is_telling(one, other, thing):
    _need_one_edge(one, other)
    if not is_tuple_of(thing, 2):
        return False
    outside, hold = thing
    if not (is_outside(one, outside) and is_outside(other, outside)):
        return False
    if not is_hold_among(outside[0] + outside[1], hold):
        return False
    return lets(one, outside, hold) and not lets(other, outside, hold)


def hidden_holds(house):
    book, border = tupled(house)
    letter = letter_of((book, border))
    return [hold for hold in book[2] if letter_of((without_hold(book, hold), border)) == letter]


def hidden_people(house):
    book, border = tupled(house)
    letter = letter_of((book, border))
    inner = inner_of((book, border))[0]
    return tuple([name for name in inner if letter_of((turned_still(book, (name,)), border)) == letter])


def idle_border(house):
    book, border = tupled(house)
    told = {}
    for line in letter_of((book, border)):
        if not (line[0] in ("both", "hands", "meets") and line[1] == line[2] and line[1] in book[0]):
            told[line[1]] = True
            told[line[-1]] = True
    return tuple([name for name in border if name not in told])
