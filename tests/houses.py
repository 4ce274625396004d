"""The tests' own judging of HOUSES: reaching and touching, LINES by the table of [3], OUTSIDES.

Nothing here asks the package. What comes is found by DEEDS that oracle.ever does.
"""

import random

import oracle

WITH_RIGHT = ("home", "has", "puts")
WITHOUT = ("takes", "hands", "meets", "flows", "both")


# Touches, word by word as [6] tells them.

def reach_of(book, name):
    found = {name}
    while True:
        more = found | {what for who, right, what in book[2] if right == "take" and who in found}
        if more == found:
            return found
        found = more


def gifts_of(book, name):
    return {what for who, right, what in book[2] if right == "hand" and who in reach_of(book, name)}


def brought_by(book, name):
    return {(right, what) for who, right, what in book[2] if who in reach_of(book, name)}


def touch_word(book, name, other):
    if other in reach_of(book, name):
        return "reaches"
    if name in reach_of(book, other):
        return "reached"
    if gifts_of(book, name) & reach_of(book, other):
        return "gives"
    if gifts_of(book, other) & reach_of(book, name):
        return "given"
    return None


def circle_of(book, name):
    found = {name}
    while True:
        more = found | {p for p in book[0] for q in found if p != q and touch_word(book, p, q) is not None}
        if more == found:
            return oracle.ascending(found)
        found = more


def circles_of(book):
    return oracle.ascending(circle_of(book, name) for name in book[0])


def is_closed(book):
    """Whether each of a CIRCLE and of its GIFTS holds all that the CIRCLE brings."""
    holds = set(book[2])
    for circle in circles_of(book):
        getters = set(circle).union(*(gifts_of(book, name) for name in circle))
        pairs = set().union(*(brought_by(book, name) for name in circle))
        if not {(who,) + pair for who in getters for pair in pairs} <= holds:
            return False
    return True


# Forms.

def house_ok(thing):
    if type(thing) is not tuple or len(thing) != 2 or not oracle.book_ok(thing[0]):
        return False
    return oracle.set_ok(thing[1], oracle.name_ok) and set(thing[1]) <= set(thing[0][0] + thing[0][1])


def line_ok(edge, thing):
    names = edge[0] + edge[1]
    if type(thing) is not tuple or not thing or type(thing[0]) is not str:
        return False
    word = thing[0]
    if word in WITH_RIGHT and len(thing) == 4:
        fits = type(thing[1]) is str and type(thing[3]) is str and thing[1] in names and thing[3] in names
        return fits and oracle.name_ok(thing[2]) and not (word == "has" and thing[2] == "take" and thing[1] == thing[3])
    if word in WITHOUT and len(thing) == 3:
        if not (type(thing[1]) is str and type(thing[2]) is str and thing[1] in names and thing[2] in names):
            return False
        if word in ("takes", "flows"):
            return thing[1] != thing[2]
        return word == "hands" or thing[1] <= thing[2]
    return False


def lines_ok(edge, thing):
    return oracle.set_ok(thing, lambda line: line_ok(edge, line))


def outside_ok(house, thing):
    (people, things, _), border = house
    if not oracle.book_ok(thing):
        return False
    for name in people + things:
        if (name in thing[0] + thing[1]) != (name in border):
            return False
    return all((name in people) == (name in thing[0]) for name in border)


def edge_of(house):
    (people, things, _), border = house
    return (tuple(n for n in people if n in border), tuple(n for n in things if n in border))


def all_lines(edge, rights):
    names = edge[0] + edge[1]
    lines = [(word, b, r, c) for word in WITH_RIGHT for b in names for r in rights for c in names]
    lines += [(word, b, c) for word in WITHOUT for b in names for c in names]
    return oracle.ascending(line for line in lines if line_ok(edge, line))


# LINES, by the table of [3].

def question(edge, line):
    """An OUTSIDE with just what the table tells of the LINE, and a HOLD that ever comes exactly if the LINE is had."""
    word, b, c = line[0], line[1], line[-1]
    take, also, hand = ("pone", "take", b), ("ptwo", "take", c), (b, "hand", "qit")
    marked = {"takes": c, "hands": "pone", "meets": "ptwo", "flows": b, "both": c}
    holds = {"has": [take], "puts": [hand], "takes": [take], "hands": [take], "meets": [take, also], "both": [hand]}
    people = {"has": ["pone"], "takes": ["pone"], "hands": ["pone"], "meets": ["pone", "ptwo"]}.get(word, [])
    things = ["qit"] if word in ("puts", "both") else []
    holds = holds.get(word, [])
    asker = {"home": b, "hands": c, "flows": c, "puts": "qit", "both": "qit"}.get(word, "pone")
    right, goal = line[2], c
    if word in marked:
        right, goal = "zmark", "qtoy"
        things = things + ["qtoy"]
        holds = holds + [(marked[word], "zmark", "qtoy")]
    book = (oracle.ascending(edge[0] + tuple(people)), oracle.ascending(edge[1] + tuple(things)), oracle.ascending(holds))
    return book, (asker, right, goal)


class Judge:
    """What one HOUSE lets, by DEEDS done beside OUTSIDES; what was done once is kept."""

    def __init__(self, house):
        self.house = house
        self.known = {}

    def comes(self, outside):
        if outside not in self.known:
            self.known[outside] = oracle.ever(oracle.side_by_side(self.house[0], outside))
        return self.known[outside]

    def has(self, line):
        outside, hold = question(edge_of(self.house), line)
        return hold in self.comes(outside)

    def lets(self, outside):
        return oracle.among(self.comes(outside), outside[0] + outside[1])

    def letter(self):
        rights = {right for _, right, _ in self.house[0][2]} | {"take", "hand"}
        return tuple(line for line in all_lines(edge_of(self.house), rights) if self.has(line))


def letter(house):
    return Judge(house).letter()


# HOUSES and OUTSIDES that are made, always the same ones.

def random_houses(seed, many, most=4, border=4, rights=oracle.RIGHTS):
    rng = random.Random(seed)
    houses = []
    for book in oracle.random_books(seed, many, most, rights):
        members = book[0] + book[1]
        houses.append((book, oracle.ascending(rng.sample(members, rng.randint(0, min(border, len(members)))))))
    return houses


def random_outside(rng, edge, holds):
    """An OUTSIDE of each HOUSE with this EDGE that is made here: two PEOPLE and two THINGS more."""
    people, things = oracle.ascending(edge[0] + ("pone", "ptwo")), oracle.ascending(edge[1] + ("qit", "qtoy"))
    members = people + things
    some = {(rng.choice(members), rng.choice(oracle.RIGHTS + ("see",)), rng.choice(members)) for _ in range(holds)}
    return (people, things, oracle.ascending(some))


def small_houses():
    """HOUSES of two or three MEMBERS with few HOLDS, all of a row, borders of none to all of them."""
    houses = []
    for book in oracle.small_books()[::3]:
        members = oracle.ascending(book[0] + book[1])
        for border in {(), members[:1], members[1:], members}:
            houses.append((book, border))
    return sorted(houses)


def house_at_bounds(seed):
    rng = random.Random(seed)
    people, things = tuple("p" + sign for sign in "abcdefgh"), tuple("t" + sign for sign in "abcdefgh")
    rights = ("take", "take", "take", "hand", "hand", "own", "see", "use")
    holds = set()
    while len(holds) < 40:
        holds.add((rng.choice(people + things), rng.choice(rights), rng.choice(people + things)))
    border = oracle.ascending(rng.sample(people, 2) + rng.sample(things, 2))
    return ((people, things, oracle.ascending(holds)), border)
