"""What can ever come to be held, and by which DEEDS."""

from touchrights.books import is_book, turned_still, with_hold
from touchrights.deeds import Play
from touchrights.errors import Unfit
from touchrights.forms import lies_among, need_members, new_names, tupled
from touchrights.touches import Web, least_chain, touch_word


def can_ever(book, hold):
    book, hold = tupled(book), tupled(hold)
    need_members(book[0] + book[1], (hold[0], hold[2]))
    return _comes(book, hold)


def _comes(book, hold):
    if hold in book[2]:
        return True
    return any([hold[1:] in knot.pairs and knot.can_get(hold[0]) for knot in Web(book).circle_knots()])


def who_can(book, right, what):
    book = tupled(book)
    need_members(book[0] + book[1], (what,))
    return tuple([who for who, power, goal in closed_table(book)[2] if power == right and goal == what])


def closed_table(book):
    people, things, holds = tupled(book)
    found = {hold: True for hold in holds}
    for knot in Web((people, things, holds)).circle_knots():
        for who in list(knot.people) + list(knot.given):
            for right, what in knot.pairs:
                found[(who, right, what)] = True
    return (people, things, tuple(sorted(found)))


def is_closed_table(book, thing):
    book = tupled(book)
    if not is_book(thing) or thing[:2] != book[:2] or not lies_among(book[2], thing[2]):
        return False
    return closed_table(thing) == thing


def opened_by(book, hold):
    book, hold = tupled(book), tupled(hold)
    more = with_hold(book, hold)
    return tuple(sorted(set(closed_table(more)[2]) - set(closed_table(book)[2])))


def can_with(book, some, hold):
    book, hold = tupled(book), tupled(hold)
    members = book[0] + book[1]
    need_members(members, some)
    need_members(members, (hold[0], hold[2]))
    if not lies_among(some, book[0]):
        raise Unfit()
    still = [name for name in book[0] if name not in some]
    return _comes(turned_still(book, still), hold)


def fewest_who_act(book, hold):
    book, hold = tupled(book), tupled(hold)
    need_members(book[0] + book[1], (hold[0], hold[2]))
    if hold in book[2]:
        return 0
    chain = _chain_for(Web(book), hold)
    return None if chain is None else len(chain)


def _chain_for(web, hold):
    """PEOPLE, as few as can be, each two neighbours touching: the first brings it, the last one can give it to who.

    PEOPLE who keep still are reached over, and given to, all the same: so no fewer ones can do it.
    """
    knots = web.person_knots()
    starts = [name for name in web.people if hold[1:] in knots[name].pairs]
    goals = [name for name in web.people if knots[name].can_get(hold[0])]
    return least_chain(web.neighbours(), starts, goals)


def deeds_for(book, hold):
    book, hold = tupled(book), tupled(hold)
    need_members(book[0] + book[1], (hold[0], hold[2]))
    if hold in book[2]:
        return ()
    chain = _chain_for(Web(book), hold)
    if chain is None:
        return None
    return _row_along(Script(book), chain, hold)


def _row_along(script, chain, hold):
    who, right, what = hold
    script.fetch(chain[0], right, what)
    for place in range(len(chain) - 1):
        script.carry(chain[place], chain[place + 1], right, what)
    if who != chain[-1]:
        script.fetch(chain[-1], "hand", who)
        script.write(("hand", chain[-1], who, right, what))
    return tuple(script.deeds)


class Script:
    """DEEDS written one behind another, each of which may be done behind those ahead of it."""

    def __init__(self, book):
        self.web = Web(book)
        self.play = Play(book)
        self.deeds = []
        # Each PERSON passes the right on once at most, so it makes one nest at most for it.
        self.names = new_names(book[0] + book[1], len(book[0]))

    def write(self, deed):
        if not self.play.is_idle(deed):
            self.play.do(deed)
            self.deeds.append(deed)

    def climb(self, person, goal):
        """The person comes to hold "take" to a goal that it reaches."""
        steps = self.web.reached_from(person)
        path = [goal]
        while path[0] != person:
            path.insert(0, steps[path[0]])
        for place in range(1, len(path) - 1):
            self.write(("take", person, path[place], "take", path[place + 1]))

    def take_at(self, person, source, right, what):
        """The person comes to hold what a source holds that it reaches."""
        if source != person:
            self.climb(person, source)
            self.write(("take", person, source, right, what))

    def fetch(self, person, right, what):
        """The person comes to hold what somebody in its REACH holds."""
        holders = [name for name in self.web.reached_from(person) if (right, what) in self.web.pairs[name]]
        self.take_at(person, holders[0], right, what)

    def nest(self, person):
        """The name of a new THING to which this person holds both rights."""
        name = self.names.pop()
        self.write(("make", person, name, "thing", ("hand", "take")))
        return name

    def carry(self, giver, taker, right, what):
        """What the giver holds comes to the taker whom it touches."""
        word = touch_word(self.web, giver, taker)
        if word == "reached":
            self.take_at(taker, giver, right, what)
        if word == "gives":
            place = self.common(giver, taker)
            self.fetch(giver, "hand", place)
            self.write(("hand", giver, place, right, what))
            self.take_at(taker, place, right, what)
        if word == "reaches":
            nest = self.nest(taker)
            self.take_at(giver, taker, "hand", nest)
            self.pass_by(nest, giver, taker, right, what)
        if word == "given":
            nest, place = self.nest(taker), self.common(taker, giver)
            self.fetch(taker, "hand", place)
            self.write(("hand", taker, place, "hand", nest))
            self.take_at(giver, place, "hand", nest)
            self.pass_by(nest, giver, taker, right, what)

    def pass_by(self, nest, giver, taker, right, what):
        self.write(("hand", giver, nest, right, what))
        self.write(("take", taker, nest, right, what))

    def common(self, giver, taker):
        """A MEMBER to which the giver gives and that the taker reaches."""
        reached = self.web.reached_from(taker)
        return [name for name in self.web.knot(giver, {}).given if name in reached][0]
