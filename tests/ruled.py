"""The RULES of [8] as the document tells them, done by the tests again and again; drawn EDGES and LINES.

Nothing here asks the package.
"""

import random

import houses
import oracle

EDGES = (
    ((), ()), (("a",), ()), ((), ("b",)), (("a",), ("b",)), (("a", "c"), ()), ((), ("b", "d")), (("c",), ("b", "d")),
    (("a", "c"), ("b",)), ((), ("b", "d", "e")), (("a", "c"), ("b", "d")),
)
RIGHTS = ("hand", "own", "take")


def ordered(one, other):
    return tuple(sorted((one, other)))


def fact_of(line):
    word, b, c = line[0], line[1], line[-1]
    if word == "home":
        return line
    if word == "has":
        return ordered(("met", b), ("brings", line[2], c))
    if word == "puts":
        return ordered(("reaches", b), ("brings", line[2], c))
    if word == "flows":
        return ordered(("reaches", b), ("gives", c))
    if word == "both":
        return ordered(("reaches", b), ("reaches", c))
    return ordered(("met", b), ({"takes": "reaches", "hands": "gives", "meets": "met"}[word], c))


def told_facts(edge, lines):
    """RULE 0."""
    people, things = edge
    facts = {fact_of(line) for line in lines}
    for b in people + things:
        facts.add(ordered(("met", b), ("reaches", b)))
    for b in people:
        facts.add((("reaches", b), ("reaches", b)))
        facts.add(ordered(("met", b), ("gives", b)))
    return facts


def ways(link):
    """The LINK read both ways about; none for a "home"."""
    return [] if link[0] == "home" else [link, link[::-1]]


def come_of_one(edge, rule, fact):
    """The FACTS that come by RULE 1, 2, 4, 5 out of this one."""
    found = set()
    for p, q in ways(fact):
        if rule == 1 and q[0] == "gives":
            found.add(ordered(p, ("met", q[1])))
        if rule == 2:
            pairs = []
            for word, right in (("reaches", "take"), ("gives", "hand")):
                if q[0] == "brings" and q[1] == right:
                    pairs.append((word, q[2]))
                if q[0] == word and q[1] in edge[1]:
                    pairs.append(("brings", right, q[1]))
            found |= {ordered(p, port) for port in pairs}
        if rule == 4 and p[0] != "met" and q[0] != "met":
            found.add((p, p))
        if rule == 5 and p[0] == "gives" and q[0] == "brings":
            found.add(("home", p[1], q[1], q[2]))
    if rule == 5 and fact[0] == "home":
        found.add(ordered(("met", fact[1]), ("brings", fact[2], fact[3])))
    return found


def come_of_two(first, second):
    """RULE 3: the first one reaches a name, the second one is met there."""
    found = set()
    for p, near in ways(first):
        for met, q in ways(second):
            if near[0] == "reaches" and met[0] == "met" and near[1] == met[1]:
                found.add(ordered(p, q))
    return found


def all_facts(edge, lines):
    facts, before = told_facts(edge, lines), None
    while facts != before:
        before = set(facts)
        for fact in before:
            for rule in (1, 2, 4, 5):
                facts |= come_of_one(edge, rule, fact)
        near = [fact for fact in facts if any(q[0] == "reaches" for _, q in ways(fact))]
        met = {}
        for fact in facts:
            for p, _ in ways(fact):
                if p[0] == "met":
                    met.setdefault(p[1], set()).add(fact)
        for first in near:
            names = {q[1] for _, q in ways(first) if q[0] == "reaches"}
            for second in [fact for name in names for fact in met.get(name, ())]:
                facts |= come_of_two(first, second)
    return facts


def closure(edge, lines):
    """All LINES that follow."""
    facts = all_facts(edge, lines)
    rights = {line[2] for line in lines if len(line) == 4} | {"hand", "take"}
    return tuple(line for line in houses.all_lines(edge, rights) if fact_of(line) in facts)


def is_number(thing):
    return type(thing) is int


def step_ok(edge, told, facts, thing):
    """Whether thing is a STEP behind those with these FACTS."""
    if type(thing) is not tuple or len(thing) != 3:
        return False
    fact, rule, places = thing
    if not is_number(rule) or rule not in range(6) or type(places) is not tuple:
        return False
    if not all(is_number(place) and 0 <= place < len(facts) for place in places):
        return False
    near = [facts[place] for place in places]
    if rule == 0:
        return not near and any(fact == one for one in told)
    if rule == 3:
        return len(near) == 2 and any(fact == one for one in come_of_two(*near))
    return len(near) == 1 and any(fact == one for one in come_of_one(edge, rule, near[0]))


def row_ok(edge, lines, line, thing):
    """Whether thing is a ROW of RULES for the LINE."""
    if type(thing) is not tuple or not thing:
        return False
    told, facts = told_facts(edge, lines), []
    for step in thing:
        if not step_ok(edge, told, facts, step):
            return False
        facts.append(step[0])
    return facts[-1] == fact_of(line)


# Forms.

def edge_ok(thing):
    if type(thing) is not tuple or len(thing) != 2 or not all(oracle.set_ok(sort, oracle.name_ok) for sort in thing):
        return False
    return not set(thing[0]) & set(thing[1])


def closed_ok(edge, thing):
    return houses.lines_ok(edge, thing) and closure(edge, thing) == thing


def plot_ok(thing):
    return type(thing) is tuple and len(thing) == 2 and edge_ok(thing[0]) and closed_ok(*thing)


# EDGES and LINES that are drawn, always the same ones.

def some_lines(rng, edge, many, rights=RIGHTS):
    lines = houses.all_lines(edge, rights)
    return oracle.ascending(rng.sample(lines, min(many, len(lines))))


def drawn(seed, many, most=8, edges=EDGES):
    """Pairs of an EDGE and of a set of LINES of it."""
    rng = random.Random(seed)
    pairs = []
    for number in range(many):
        edge = edges[number % len(edges)]
        pairs.append((edge, some_lines(rng, edge, rng.randint(0, most))))
    return pairs


def subsets(parts):
    """All sets of these parts, those with fewer parts first."""
    lots = [()]
    for part in parts:
        lots += [lot + (part,) for lot in lots]
    return sorted(lots, key=lambda lot: (len(lot), lot))


def least(lots):
    """The ascending list of those of these sets no part of which is one, but itself."""
    return sorted(lot for lot in lots if not any(set(other) < set(lot) for other in lots))
