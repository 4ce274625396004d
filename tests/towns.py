"""CITIES as the tests see them: HOUSES put beside one another, by DEEDS that are done. Nothing here asks the package."""

import functools
import random

import houses
import oracle
import ruled

PEOPLE, THINGS = ("a", "c"), ("b", "d", "e")
RIGHTS = ("take", "take", "hand", "hand", "own")


def random_house(rng, people, things, inner, holds, rights=RIGHTS):
    """A HOUSE with this border, and with these inner NAMES, the first one a PERSON's."""
    alive, still = oracle.ascending(people + inner[:1]), oracle.ascending(things + inner[1:])
    members = alive + still
    some = {(rng.choice(members), rng.choice(rights), rng.choice(members)) for _ in range(holds)} if members else ()
    return ((alive, still, oracle.ascending(some)), oracle.ascending(people + things))


def random_border(rng, most, people=PEOPLE, things=THINGS):
    names = rng.sample(people + things, rng.randint(1, most))
    return oracle.ascending(n for n in names if n in people), oracle.ascending(n for n in names if n in things)


def random_town(rng, many, most=3, holds=6, people=PEOPLE, things=THINGS):
    """HOUSES with NAMES of their borders alone in common."""
    town = []
    for place in range(many):
        inner = ("x" + "abcdef"[place], "y" + "abcdef"[place])[:rng.randint(1, 2)]
        border = random_border(rng, most, people, things)
        town.append(random_house(rng, border[0], border[1], inner, rng.randint(1, holds)))
    return tuple(town)


def drawn(seed, many, most=3, plots=(0, 1, 2, 2, 3, 3), holds=6):
    rng = random.Random(seed)
    return [random_town(rng, plots[number % len(plots)], most, holds) for number in range(many)]


def together(town):
    book = ((), (), ())
    for house in town:
        book = oracle.side_by_side(book, house[0])
    return book


def edge_of_all(town):
    edges = [houses.edge_of(house) for house in town]
    return tuple(oracle.ascending(name for edge in edges for name in edge[sort]) for sort in range(2))


def names_of(edge):
    return edge[0] + edge[1]


def city_of(town):
    return tuple((houses.edge_of(house), houses.letter(house)) for house in town)


def plot_of(town, border):
    """The plot that these HOUSES are, put beside one another, with this border."""
    house = (together(town), oracle.ascending(border))
    return (houses.edge_of(house), houses.letter(house))


def comes(town):
    """All HOLDS of NAMES of the borders that come in the HOUSES put beside one another."""
    return oracle.among(oracle.ever(together(town)), names_of(edge_of_all(town)))


def bare(house):
    """The emptied HOUSE: its border alone."""
    people, things = houses.edge_of(house)
    return ((people, things, ()), house[1])


def only(town, some):
    return tuple(house if place in some else bare(house) for place, house in enumerate(town))


def apart_ok(town):
    """Whether no two have MEMBERS in common but NAMES of both borders."""
    for place, one in enumerate(town):
        for other in town[place + 1:]:
            common = set(one[0][0] + one[0][1]) & set(other[0][0] + other[0][1])
            if not common <= set(one[1]) & set(other[1]):
                return False
    return True


def with_edges_ok(edges, thing):
    """Whether thing is a tuple of HOUSES with these EDGES, nobody in common but NAMES of both."""
    if type(thing) is not tuple or len(thing) != len(edges) or not all(houses.house_ok(house) for house in thing):
        return False
    return [houses.edge_of(house) for house in thing] == list(edges) and apart_ok(thing)


def stands_ok(city, thing):
    if not with_edges_ok([edge for edge, _ in city], thing):
        return False
    return all(houses.letter(house) == lines for house, (_, lines) in zip(thing, city))


def city_ok(thing):
    if type(thing) is not tuple or not all(ruled.plot_ok(plot) for plot in thing):
        return False
    people = {name for edge, _ in thing for name in edge[0]}
    return not people & {name for edge, _ in thing for name in edge[1]}


def all_holds(edge, rights=("hand", "none", "own", "take")):
    names = names_of(edge)
    return [(who, right, what) for who in names for right in rights for what in names]


# CITIES told by LINES, and what follows in them by the RULES.

def random_city(rng, many, most=3, lines=4, people=PEOPLE, things=THINGS, rights=ruled.RIGHTS):
    plots = []
    for _ in range(many):
        edge = random_border(rng, most, people, things)
        plots.append((edge, ruled.closure(edge, ruled.some_lines(rng, edge, rng.randint(0, lines), rights))))
    return tuple(plots)


def edge_of_city(city):
    return tuple(oracle.ascending(name for edge, _ in city for name in edge[sort]) for sort in range(2))


@functools.lru_cache(maxsize=None)
def followed(edge, lines):
    return frozenset(ruled.closure(edge, lines))


def told(city, more=()):
    """The set of what follows from all LINES of all plots together, and of more."""
    lines = {line for _, lines in city for line in lines} | set(more)
    return followed(edge_of_city(city), oracle.ascending(lines))


def lets(city, hold, more=()):
    return ("home",) + hold in told(city, more)


def lets_all(city, holds, more=()):
    return all(lets(city, hold, more) for hold in holds)


def full(edge, rights):
    return (edge, houses.all_lines(edge, set(rights) | {"hand", "take"}))


def freed(city, some, rights):
    """The CITY with the plots at some left free, in these rights."""
    return tuple(full(plot[0], rights) if place in some else plot for place, plot in enumerate(city))


def promised(rng, town, lines=2):
    """Promises that these HOUSES keep: their LETTERS, with some LINES more, and what follows."""
    plots = []
    for edge, letter in city_of(town):
        more = ruled.some_lines(rng, edge, rng.randint(0, lines))
        plots.append((edge, ruled.closure(edge, oracle.ascending(letter + more))))
    return tuple(plots)


def about_ok(promises, some, holds, thing):
    """Whether thing is a tuple of HOUSES, those elsewhere than at some keep, and all holds come, by DEEDS."""
    if not with_edges_ok([edge for edge, _ in promises], thing):
        return False
    for place, house in enumerate(thing):
        if place not in some and not set(houses.letter(house)) <= set(promises[place][1]):
            return False
    return set(holds) <= oracle.ever(together(thing))


def some_holds(rng, edge, many, rights=("hand", "none", "own", "take")):
    lots = all_holds(edge, rights)
    return oracle.ascending(rng.sample(lots, min(many, len(lots))))


def house_at_bounds(rng, people, things, sign):
    """A HOUSE with this border, 8 PEOPLE, 8 THINGS, 40 HOLDS."""
    alive = oracle.ascending(people + tuple("p" + sign + k for k in "abcdefgh")[:8 - len(people)])
    still = oracle.ascending(things + tuple("t" + sign + k for k in "abcdefgh")[:8 - len(things)])
    holds = set()
    while len(holds) < 40:
        right = rng.choice(("take", "hand", "own", "see", "use", "use"))
        holds.add((rng.choice(alive + still), right, rng.choice(alive + still)))
    return ((alive, still, oracle.ascending(holds)), oracle.ascending(people + things))
