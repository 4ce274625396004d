"""Who reaches whom, who gives to whom, and which PEOPLE touch."""

from touchrights.errors import Unfit
from touchrights.forms import need_members, tupled


class Knot:
    """PEOPLE, maybe none, with what they reach, to whom they give, and what they bring, each as a dict."""

    def __init__(self, people, reached, given, pairs):
        self.people = people
        self.reached = reached
        self.given = given
        self.pairs = pairs

    def touches(self, other):
        ways = (
            (self.reached, other.people),
            (other.reached, self.people),
            (self.given, other.reached),
            (other.given, self.reached),
        )
        return any([_meet(one, two) for one, two in ways])

    def joined(self, other):
        return Knot(
            _merged(self.people, other.people),
            _merged(self.reached, other.reached),
            _merged(self.given, other.given),
            _merged(self.pairs, other.pairs),
        )

    def can_get(self, name):
        """Whether all that the PEOPLE bring can come to this MEMBER by them."""
        return name in self.people or name in self.given


def _meet(one, two):
    return any([name in two for name in one])


def _merged(one, two):
    return {name: True for name in list(one) + list(two)}


class Web:
    """The HOLDS of a BOOK as they matter for touches."""

    def __init__(self, book):
        self.people = book[0]
        members = book[0] + book[1]
        self.takes = {name: [] for name in members}
        self.hands = {name: [] for name in members}
        self.pairs = {name: [] for name in members}
        for who, right, what in book[2]:
            self.pairs[who].append((right, what))
            if right == "take":
                self.takes[who].append(what)
            if right == "hand":
                self.hands[who].append(what)

    def reached_from(self, name):
        """The REACH, as a dict that keeps for each MEMBER the one from which a step leads to it."""
        found = {name: None}
        waiting = [name]
        while waiting:
            near = waiting.pop(0)
            for goal in self.takes[near]:
                if goal not in found:
                    found[goal] = near
                    waiting.append(goal)
        return found

    def knot(self, name, people):
        """The Knot of these PEOPLE, if all that they reach is what this MEMBER reaches."""
        reached = self.reached_from(name)
        given = {goal: True for near in reached for goal in self.hands[near]}
        pairs = {pair: True for near in reached for pair in self.pairs[near]}
        return Knot(people, reached, given, pairs)

    def person_knots(self):
        """For each PERSON its own Knot."""
        return {name: self.knot(name, {name: True}) for name in self.people}

    def circle_knots(self):
        """The Knots of the CIRCLES."""
        found = []
        for new in self.person_knots().values():
            apart = []
            for knot in found:
                if knot.touches(new):
                    new = new.joined(knot)
                else:
                    apart.append(knot)
            found = apart + [new]
        return found

    def neighbours(self):
        """For each PERSON the list, ascending, of those whom it touches."""
        knots = self.person_knots()
        return {
            name: [other for other in self.people if other != name and knots[name].touches(knots[other])]
            for name in self.people
        }


def least_chain(neighbours, starts, goals):
    """The least of the shortest tuples of touching PEOPLE from one of starts to one of goals; None if there is none."""
    steps = {name: 0 for name in goals}
    waiting = sorted(steps)
    while waiting:
        name = waiting.pop(0)
        for near in neighbours[name]:
            if near not in steps:
                steps[near] = steps[name] + 1
                waiting.append(near)
    ready = sorted([(steps[name], name) for name in starts if name in steps])
    if not ready:
        return None
    chain = [ready[0][1]]
    while steps[chain[-1]] > 0:
        left = steps[chain[-1]] - 1
        chain.append(min([near for near in neighbours[chain[-1]] if steps[near] == left]))
    return tuple(chain)


def reach(book, name):
    book = tupled(book)
    need_members(book[0] + book[1], (name,))
    return tuple(sorted(Web(book).reached_from(name)))


def gifts(book, name):
    book = tupled(book)
    need_members(book[0] + book[1], (name,))
    return tuple(sorted(Web(book).knot(name, {}).given))


def brought(book, name):
    book = tupled(book)
    need_members(book[0] + book[1], (name,))
    return tuple(sorted(Web(book).knot(name, {}).pairs))


def _need_people(book, names):
    need_members(book[0] + book[1], names)
    for name in names:
        if name not in book[0]:
            raise Unfit()


def touch_of(book, name, other):
    book = tupled(book)
    _need_people(book, (name, other))
    if name == other:
        raise Unfit()
    return touch_word(Web(book), name, other)


def touch_word(web, name, other):
    one, two = web.knot(name, {}), web.knot(other, {})
    if other in one.reached:
        return "reaches"
    if name in two.reached:
        return "reached"
    if _meet(one.given, two.reached):
        return "gives"
    if _meet(two.given, one.reached):
        return "given"
    return None


def circles(book):
    return tuple(sorted([tuple(sorted(knot.people)) for knot in Web(tupled(book)).circle_knots()]))


def row_of_touches(book, name, other):
    book = tupled(book)
    _need_people(book, (name, other))
    return least_chain(Web(book).neighbours(), [name], [other])
