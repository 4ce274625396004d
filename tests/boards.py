"""A board as the tests see it: HOUSES that the tests keep by themselves, questions answered by DEEDS and RULES.

Nothing here asks the package. What is refused is told by a Refused, with the name of the error and its values.
"""

import functools

import houses
import oracle
import ruled
import towns


class Refused(Exception):
    pass


@functools.lru_cache(maxsize=None)
def letter(house):
    return houses.letter(house)


@functools.lru_cache(maxsize=None)
def front(town, covered):
    names = towns.names_of(towns.edge_of_all(town))
    return towns.plot_of(town, [name for name in names if name not in covered])


@functools.lru_cache(maxsize=None)
def comes(town):
    return frozenset(towns.comes(town))


def fits_together(town):
    """Whether each MEMBER of two HOUSES is of both borders, a PERSON in both or a THING in both."""
    book = towns.together(town)
    return towns.apart_ok(town) and not set(book[0]) & set(book[1])


def put_at(rows, number, new):
    return rows[:number] + (new,) + rows[number + 1:]


class Model:
    def __init__(self, town):
        if not fits_together(town):
            raise Refused("Unfit")
        self.now = (town, (), (None,) * len(town), ())
        self.earlier = []

    def become(self, place, value):
        self.earlier.append(self.now)
        self.now = put_at(self.now, place, value)

    def need_number(self, number):
        if number not in range(len(self.now[0])):
            raise Refused("NoNumber", ("number", number))

    def need_names(self, known, names):
        for name in names:
            if name not in known:
                raise Refused("NoMember", ("name", name))

    def edge_names(self):
        return towns.names_of(towns.edge_of_all(self.now[0]))

    def change(self, number, holds):
        (people, things, _), border = self.now[0][number]
        self.become(0, put_at(self.now[0], number, ((people, things, oracle.ascending(holds)), border)))

    # Deeds.

    def act(self, number, deed):
        self.need_number(number)
        book, border = self.now[0][number]
        if not oracle.allowed(book, deed):
            raise Refused("Unfit")
        for other in self.now[0]:
            if deed[0] == "make" and deed[2] in other[0][0] + other[0][1]:
                raise Refused("Twice", ("name", deed[2]))
        self.become(0, put_at(self.now[0], number, (oracle.done(book, deed), border)))

    def need_ends(self, number, hold):
        self.need_number(number)
        book = self.now[0][number][0]
        self.need_names(book[0] + book[1], (hold[0], hold[2]))
        return book[2]

    def let_in(self, number, hold):
        holds = self.need_ends(number, hold)
        self.change(number, holds + (hold,))

    def strike(self, number, hold):
        holds = self.need_ends(number, hold)
        if hold not in holds:
            raise Refused("NoHold", ("hold", hold))
        self.change(number, tuple(other for other in holds if other != hold))

    def cover(self, name):
        self.need_names(self.edge_names(), (name,))
        self.become(1, oracle.ascending(self.now[1] + (name,)))

    def uncover(self, name):
        self.need_names(self.edge_names(), (name,))
        self.become(1, tuple(other for other in self.now[1] if other != name))

    def vow(self, number, lines):
        self.need_number(number)
        if lines is not None:
            edge = houses.edge_of(self.now[0][number])
            for line in lines:
                self.need_names(towns.names_of(edge), (line[1], line[-1]))
            if not ruled.closed_ok(edge, lines):
                raise Refused("Unfit")
        self.become(2, put_at(self.now[2], number, lines))

    def note(self, hold):
        self.need_names(self.edge_names(), (hold[0], hold[2]))
        self.become(3, self.now[3] + (hold,))

    def undo(self):
        if not self.earlier:
            raise Refused("NothingDone")
        self.now = self.earlier.pop()

    # Questions.

    def parts(self):
        return self.now[0]

    def covered(self):
        return self.now[1]

    def vows(self):
        return self.now[2]

    def notes(self):
        return self.now[3]

    def page(self, number):
        self.need_number(number)
        return letter(self.now[0][number])

    def town(self):
        return tuple((houses.edge_of(house), letter(house)) for house in self.now[0])

    def front(self):
        return front(self.now[0], self.now[1])

    def lets(self, hold):
        self.need_names(self.edge_names(), (hold[0], hold[2]))
        return hold in comes(self.now[0])

    def kept(self):
        pairs = list(enumerate(self.now[2]))
        return tuple(place for place, vow in pairs if vow is not None and set(self.page(place)) <= set(vow))

    def broken(self, number):
        lines, vow = set(self.page(number)), self.now[2][number]
        return () if vow is None else oracle.ascending(lines - set(vow))

    def fronts(self):
        """The LINES of the front ahead of the last deed, and now."""
        ahead = self.earlier[-1] if self.earlier else self.now
        return set(front(ahead[0], ahead[1])[1]), set(self.front()[1])

    def opened(self):
        old, new = self.fronts()
        return oracle.ascending(new - old)

    def shut(self):
        old, new = self.fronts()
        return oracle.ascending(old - new)

    def strange(self):
        city = tuple(plot if vow is None else (plot[0], vow) for plot, vow in zip(self.town(), self.now[2]))
        return tuple(place for place, hold in enumerate(self.now[3]) if not towns.lets(city, hold))


# Deeds that are drawn.

def random_town(rng, many):
    """HOUSES whose EDGES have at most four NAMES together."""
    return towns.random_town(rng, many, 3, 6, ("a", "c"), ("b", "d"))


def random_name(rng, model):
    names = model.edge_names()
    return rng.choice(names + ("xa", "zed")) if rng.random() < 0.15 or not names else rng.choice(names)


def random_hold(rng, names):
    odd = names + ("zed",) if rng.random() < 0.1 or not names else names
    return (rng.choice(odd), rng.choice(("hand", "own", "see", "take")), rng.choice(odd))


def random_vow(rng, model, number):
    house = model.now[0][number]
    edge = houses.edge_of(house)
    kind = rng.randint(0, 7)
    if kind == 0:
        return None
    if kind == 1:
        return ruled.some_lines(rng, edge, 2)
    if kind == 2:
        return (("home", "a", "own", "zed"), ("takes", "b", "b"))
    if kind == 3:
        return (("takes",) + edge[1][:1] * 2,) if edge[1] else (("flows",) + edge[0][:1] * 2,)
    lines = letter(house) if kind < 6 else ()
    return ruled.closure(edge, oracle.ascending(lines + ruled.some_lines(rng, edge, rng.randint(0, 2))))


def random_deed(rng, model):
    """The name of a method, and its arguments."""
    town = model.now[0]
    number = rng.randrange(len(town))
    book = town[number][0]
    word = rng.choice(("act", "act", "let_in", "let_in", "strike", "cover", "uncover", "vow", "vow", "note", "undo"))
    if word == "note" and len(model.now[3]) >= 6:
        word = "undo"
    told = number if rng.random() < 0.93 else rng.choice((-1, len(town), 7))
    if word == "act":
        return word, (told, oracle.random_deed(rng, book, ("n", "nn", "b", "xa", "xb")))
    if word == "let_in":
        return word, (told, random_hold(rng, book[0] + book[1]))
    if word == "strike":
        holds = book[2] if book[2] and rng.random() < 0.7 else (random_hold(rng, book[0] + book[1]),)
        return word, (told, rng.choice(holds))
    if word in ("cover", "uncover"):
        return word, (random_name(rng, model),)
    if word == "vow":
        return word, (told, random_vow(rng, model, number))
    if word == "note":
        return word, (random_hold(rng, model.edge_names()),)
    return word, ()


def outcome(method, *args):
    """What a call of a Model gives, as rules.outcome tells it."""
    try:
        return ("value", method(*args))
    except Refused as error:
        return ("error", error.args[0], tuple(sorted(error.args[1:])))
