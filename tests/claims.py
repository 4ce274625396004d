"""CLAIMS as the tests see them: which values are CLAIMS, whether they stand, and what shows that they do not.

Nothing here asks the package.
"""

import random

import houses
import oracle
import ruled
import towns

WORDS = ("never", "no more", "follows", "closed", "lean", "barred", "cleared", "safe", "surely")
RIGHTS = ("hand", "own", "take")


# Forms.

def holds_ok(city, thing):
    names = towns.names_of(towns.edge_of_city(city))
    return oracle.set_ok(thing, lambda hold: oracle.triple_ok(names, hold))


def places_ok(city, thing):
    if type(thing) is not tuple or not all(type(place) is int for place in thing):
        return False
    return thing == oracle.ascending(thing) and set(thing) <= set(range(len(city)))


def hold_ok(city, thing):
    return oracle.triple_ok(towns.names_of(towns.edge_of_city(city)), thing)


def between_ok(city, promises):
    if [edge for edge, _ in city] != [edge for edge, _ in promises]:
        return False
    return all(set(sure[1]) <= set(most[1]) for sure, most in zip(city, promises))


def parts_ok(word, parts):
    if word == "never":
        return oracle.book_ok(parts[0]) and oracle.triple_ok(parts[0][0] + parts[0][1], parts[1])
    if word == "no more":
        return all(houses.house_ok(part) for part in parts) and houses.edge_of(parts[0]) == houses.edge_of(parts[1])
    if word in ("closed", "lean", "follows"):
        fits = ruled.edge_ok(parts[0]) and houses.lines_ok(parts[0], parts[1])
        return fits and (word != "follows" or houses.line_ok(parts[0], parts[2]))
    if not towns.city_ok(parts[0]):
        return False
    if word == "barred":
        return hold_ok(*parts)
    if word == "cleared":
        return holds_ok(parts[0], parts[1]) and places_ok(parts[0], parts[2])
    if word == "safe":
        return holds_ok(parts[0], parts[1]) and holds_ok(parts[0], parts[2])
    return towns.city_ok(parts[1]) and between_ok(parts[0], parts[1]) and hold_ok(parts[0], parts[2])


def claim_ok(thing):
    if type(thing) is not tuple or not thing or type(thing[0]) is not str or thing[0] not in WORDS:
        return False
    many = 4 if thing[0] in ("follows", "cleared", "safe", "surely") else 3
    return len(thing) == many and parts_ok(thing[0], thing[1:])


# What CLAIMS say.

def homes(holds):
    return tuple(("home",) + hold for hold in holds)


def needless(edge, lines):
    return {one for one in lines if one in towns.followed(edge, tuple(other for other in lines if other != one))}


def broken(promises, sights, some):
    rights = {line[2] for _, lines in promises for line in lines if len(line) == 4} | {hold[1] for hold in sights}
    return towns.freed(promises, some, rights)


def coming(city, offers, holds):
    told = towns.told(city, homes(offers))
    return {hold for hold in holds if ("home",) + hold in told}


def stands(claim):
    word, parts = claim[0], claim[1:]
    if word == "never":
        return parts[1] not in oracle.ever(parts[0])
    if word == "no more":
        return set(houses.letter(parts[0])) <= set(houses.letter(parts[1]))
    if word == "follows":
        return parts[2] in towns.followed(parts[0], parts[1])
    if word == "closed":
        return towns.followed(*parts) == set(parts[1])
    if word == "lean":
        return not needless(*parts)
    if word == "barred":
        return not towns.lets(*parts)
    if word == "cleared":
        return not towns.lets_all(broken(*parts), parts[1])
    if word == "safe":
        return not coming(*parts)
    return towns.lets(parts[0], parts[2])


# PAPERS against them.

def telling_ok(one, other, thing):
    if type(thing) is not tuple or len(thing) != 2:
        return False
    outside, hold = thing
    if not (houses.outside_ok(one, outside) and houses.outside_ok(other, outside)):
        return False
    if not oracle.triple_ok(outside[0] + outside[1], hold):
        return False
    return hold in houses.Judge(one).lets(outside) and hold not in houses.Judge(other).lets(outside)


def house_without_ok(edge, lines, line, thing):
    if not houses.house_ok(thing) or houses.edge_of(thing) != edge:
        return False
    judge = houses.Judge(thing)
    return all(judge.has(one) for one in lines) and not judge.has(line)


def shield_ok(city, hold, thing):
    edge = towns.edge_of_city(city)
    if not houses.lines_ok(edge, thing) or towns.followed(edge, thing) != set(thing):
        return False
    return {line for _, lines in city for line in lines} <= set(thing) and ("home",) + hold not in thing


def paper_ok(claim, thing):
    word, parts = claim[0], claim[1:]
    if word == "never":
        return oracle.row_ok(thing) and oracle.brings(parts[0], thing, parts[1])
    if word == "no more":
        return telling_ok(parts[0], parts[1], thing)
    if word == "follows":
        return house_without_ok(parts[0], parts[1], parts[2], thing)
    if word == "closed":
        fits = houses.line_ok(parts[0], thing) and thing not in parts[1]
        return fits and thing in towns.followed(*parts)
    if word == "lean":
        return any(type(thing) is tuple and thing == line for line in needless(*parts))
    if word == "barred":
        return towns.about_ok(parts[0], (), (parts[1],), thing)
    if word == "cleared":
        return towns.about_ok(parts[0], parts[2], parts[1], thing)
    if word == "safe":
        return any(type(thing) is tuple and thing == hold for hold in coming(*parts))
    return shield_ok(parts[0], parts[2], thing)


# CLAIMS that are drawn, always the same ones.

def drawn_never(rng, number):
    book = oracle.random_book(rng, rng.randint(1, 3), rng.randint(0, 3), rng.randint(0, 8))
    members = book[0] + book[1]
    come = sorted(oracle.ever(book))
    if come and number % 2:
        return ("never", book, rng.choice(come))
    return ("never", book, (rng.choice(members), rng.choice(RIGHTS), rng.choice(members)))


def drawn_no_more(rng, number):
    house = houses.random_houses(rng.randint(0, 10 ** 6), 1, 4)[0]
    (people, things, holds), border = house
    some = oracle.ascending(rng.sample(holds, max(0, len(holds) - 1)))
    less = ((people, things, some), border)
    return ("no more",) + ((house, less) if number % 2 else (less, house))


def drawn_lines(rng, number, most=5):
    edge = ruled.EDGES[number % len(ruled.EDGES)]
    lines = ruled.some_lines(rng, edge, rng.randint(0, most))
    return edge, lines


def drawn_follows(rng, number):
    edge, lines = drawn_lines(rng, rng.randint(1, 9))
    told = sorted(towns.followed(edge, lines) - set(lines))
    if told and number % 2:
        return ("follows", edge, lines, rng.choice(told))
    return ("follows", edge, lines, rng.choice(houses.all_lines(edge, RIGHTS)))


def drawn_closed(rng, number):
    edge, lines = drawn_lines(rng, rng.randint(0, 9), 2)
    return ("closed", edge, tuple(sorted(towns.followed(edge, lines))) if number % 2 else lines)


def drawn_lean(rng, number):
    return ("lean",) + drawn_lines(rng, number, 4)


def drawn_city(rng, lines=3, most=3):
    return towns.random_city(rng, rng.randint(1, 3), most, lines, towns.PEOPLE, ("b", "d"))


def hold_of(rng, city, number):
    told = sorted(line[1:] for line in towns.told(city) if line[0] == "home")
    if told and number % 2:
        return rng.choice(told)
    return rng.choice(towns.all_holds(towns.edge_of_city(city), RIGHTS))


def drawn_barred(rng, number):
    city = drawn_city(rng)
    return ("barred", city, hold_of(rng, city, number))


def drawn_cleared(rng, number):
    city = drawn_city(rng, 2)
    sights = oracle.ascending(hold_of(rng, city, rng.randint(0, 1)) for _ in range(rng.randint(0, 2)))
    some = rng.choice(ruled.subsets(range(len(city)))[:-1] or [()])
    return ("cleared", city, sights, some)


def drawn_safe(rng, number):
    city = drawn_city(rng, 2)
    edge = towns.edge_of_city(city)
    offers = towns.some_holds(rng, edge, rng.randint(0, 3), RIGHTS)
    return ("safe", city, offers, towns.some_holds(rng, edge, rng.randint(0, 2), RIGHTS))


def drawn_surely(rng, number):
    city = drawn_city(rng, 2, 2)
    promises = []
    for edge, sure in city:
        promises.append((edge, ruled.closure(edge, oracle.ascending(sure + ruled.some_lines(rng, edge, 1)))))
    return ("surely", city, tuple(promises), hold_of(rng, city, number))


DRAWN = {
    "never": drawn_never, "no more": drawn_no_more, "follows": drawn_follows, "closed": drawn_closed,
    "lean": drawn_lean, "barred": drawn_barred, "cleared": drawn_cleared, "safe": drawn_safe, "surely": drawn_surely,
}


def drawn(word, seed, many):
    rng = random.Random(seed)
    return [DRAWN[word](rng, number) for number in range(many)]
