"""DEEDS, and rows of them done one behind another."""

from touchrights.errors import Barred, NoHold
from touchrights.forms import as_set, is_name, is_set_of_names, is_tuple_of, need_numbers, tupled


class Play:
    """A BOOK in which DEEDS are being done."""

    def __init__(self, book):
        self.people = {name: True for name in book[0]}
        self.things = {name: True for name in book[1]}
        self.holds = {hold: True for hold in book[2]}

    def allows(self, deed):
        if deed[1] not in self.people:
            return False
        if deed[0] == "make":
            return deed[2] not in self.people and deed[2] not in self.things
        return all([hold in self.holds for hold in wanted_by(deed)])

    def is_idle(self, deed):
        """Whether this DEED would change nothing."""
        return deed[0] != "make" and all([hold in self.holds for hold in _given_by(deed)])

    def do(self, deed):
        if deed[0] == "make" and deed[3] == "person":
            self.people[deed[2]] = True
        elif deed[0] == "make":
            self.things[deed[2]] = True
        for hold in _given_by(deed):
            self.holds[hold] = True

    def as_book(self):
        return (tuple(sorted(self.people)), tuple(sorted(self.things)), tuple(sorted(self.holds)))


def is_deed(thing):
    if not is_tuple_of(thing, 5) or not (is_name(thing[1]) and is_name(thing[2])):
        return False
    if thing[0] in ("take", "hand"):
        return is_name(thing[3]) and is_name(thing[4])
    return thing[0] == "make" and thing[3] in ("person", "thing") and is_set_of_names(thing[4])


def is_row_of_deeds(thing):
    return isinstance(thing, tuple) and all([is_deed(deed) for deed in thing])


def may_do(book, deed):
    return Play(tupled(book)).allows(tupled(deed))


def open_deeds(book):
    people, _, holds = tupled(book)
    found = []
    for person, word, near in holds:
        if person in people and word == "take":
            found += [("take", person, near, right, what) for who, right, what in holds if who == near]
        if person in people and word == "hand":
            found += [("hand", person, near, right, what) for who, right, what in holds if who == person]
    play = Play(tupled(book))
    return as_set([deed for deed in found if not play.is_idle(deed)])


def wanted_by(deed):
    word, person, near, right, what = tupled(deed)
    if word == "take":
        return as_set([(person, "take", near), (near, right, what)])
    if word == "hand":
        return as_set([(person, "hand", near), (person, right, what)])
    return ()


def _given_by(deed):
    """The HOLDS that are there behind this DEED."""
    word, person, near, right, what = deed
    if word == "take":
        return [(person, right, what)]
    if word == "hand":
        return [(near, right, what)]
    return [(person, power, near) for power in what]


def first_barred(book, deeds):
    play = Play(tupled(book))
    for number, deed in enumerate(tupled(deeds)):
        if not play.allows(deed):
            return number
        play.do(deed)
    return None


def _played(book, deeds):
    """The Play behind the whole row."""
    number = first_barred(book, deeds)
    if number is not None:
        raise Barred(number)
    return _played_without(book, deeds, ())[0]


def _played_without(book, deeds, numbers):
    """The Play behind the row without these DEEDS, and the numbers of those that are done."""
    play = Play(book)
    done = []
    for number, deed in enumerate(deeds):
        if number not in numbers and play.allows(deed):
            play.do(deed)
            done.append(number)
    return play, tuple(done)


def behind(book, deeds):
    return _played(tupled(book), tupled(deeds)).as_book()


def new_holds(book, deeds):
    book = tupled(book)
    return tuple(sorted(set(behind(book, deeds)[2]) - set(book[2])))


def first_with(book, deeds, hold):
    book, deeds, hold = tupled(book), tupled(deeds), tupled(hold)
    if hold not in _played(book, deeds).holds:
        return None
    play = Play(book)
    many = 0
    while hold not in play.holds:
        play.do(deeds[many])
        many += 1
    return many


def doers(deeds):
    return as_set([deed[1] for deed in deeds])


def made_names(deeds):
    return as_set([deed[2] for deed in deeds if deed[0] == "make"])


def done_without(book, deeds, numbers):
    book, deeds = tupled(book), tupled(deeds)
    need_numbers(len(deeds), numbers)
    _played(book, deeds)
    return _played_without(book, deeds, numbers)[1]


def behind_without(book, deeds, numbers):
    book, deeds = tupled(book), tupled(deeds)
    need_numbers(len(deeds), numbers)
    _played(book, deeds)
    return _played_without(book, deeds, numbers)[0].as_book()


def _need_hold_behind(book, deeds, hold):
    if hold not in _played(book, deeds).holds:
        raise NoHold(hold)


def _is_there_without(book, deeds, numbers, hold):
    return hold in _played_without(book, deeds, numbers)[0].holds


def needed_deeds(book, deeds, hold):
    book, deeds, hold = tupled(book), tupled(deeds), tupled(hold)
    _need_hold_behind(book, deeds, hold)
    return tuple([number for number in range(len(deeds)) if not _is_there_without(book, deeds, [number], hold)])


def lean_row(book, deeds, hold):
    book, deeds, hold = tupled(book), tupled(deeds), tupled(hold)
    _need_hold_behind(book, deeds, hold)
    left_out = []
    for number in range(len(deeds)):
        if _is_there_without(book, deeds, left_out + [number], hold):
            left_out.append(number)
    done = _played_without(book, deeds, left_out)[1]
    return tuple([deeds[number] for number in done])


def is_row_for(book, hold, thing):
    book, hold = tupled(book), tupled(hold)
    if not is_row_of_deeds(thing) or first_barred(book, thing) is not None:
        return False
    return hold in _played(book, thing).holds


def is_lean_row(book, hold, thing):
    book, hold = tupled(book), tupled(hold)
    if not is_row_for(book, hold, thing):
        return False
    bringers = _only_bringers(book, thing)
    return bringers is not None and len(_hangs_on(thing, bringers, hold)) == len(thing)


def _only_bringers(book, deeds):
    """For each NAME and HOLD that the row brings the number of the one DEED that brings it; None if a DEED is idle.

    An idle DEED can be left out for whatever HOLD. Without idle ones nothing is brought by two DEEDS, so
    each DEED on which a HOLD hangs is needed for it: rows however long need not be done anew for each DEED.
    """
    bringers = {}
    for number, deed in enumerate(deeds):
        if deed[0] == "make":
            bringers[deed[2]] = number
        for hold in _given_by(deed):
            if hold in bringers or hold in book[2]:
                return None
            bringers[hold] = number
    return bringers


def _hangs_on(deeds, bringers, hold):
    """The numbers of the DEEDS on which the HOLD hangs, as a dict."""
    found = {}
    waiting = [hold]
    while waiting:
        number = bringers.get(waiting.pop())
        if number is not None and number not in found:
            found[number] = True
            waiting.append(deeds[number][1])
            waiting.extend(list(wanted_by(deeds[number])))
    return found
