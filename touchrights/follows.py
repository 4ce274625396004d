"""What LINES follow from others, FOR ALL HOUSES."""

from touchrights.forms import is_number, is_set_of_names, is_tuple_of, need_lines, tupled
from touchrights.letters import is_lines
from touchrights.subsets import least_sets
from touchrights.ties import Ties, in_order, link_of, rights_told

# How many earlier STEPS a STEP comes out of, by its RULE.
WANTED = (0, 1, 1, 2, 1, 1)
WORD_FOR = {"take": "reaches", "hand": "gives"}
RIGHT_FOR = {"reaches": "take", "gives": "hand"}


def is_edge(thing):
    if not (is_tuple_of(thing, 2) and is_set_of_names(thing[0]) and is_set_of_names(thing[1])):
        return False
    return len(set(thing[0] + thing[1])) == len(thing[0]) + len(thing[1])


def fact_of(edge, line):
    line = tupled(line)
    need_lines(tupled(edge), (line,))
    return link_of(line)


def ties_of(edge, lines):
    """All that comes out of these LINES."""
    ties = Ties(edge, rights_told(lines))
    ties.tell(lines)
    return ties


def lines_that_come(edge, lines):
    """The set of the LINES that follow."""
    return ties_of(edge, lines).lines_that_came()


def line_comes(edge, lines, line):
    return ties_of(edge, lines).has_come(link_of(line))


def all_that_follow(edge, lines):
    edge, lines = tupled(edge), tupled(lines)
    need_lines(edge, lines)
    return lines_that_come(edge, lines)


def follows(edge, lines, line):
    edge, lines, line = tupled(edge), tupled(lines), tupled(line)
    need_lines(edge, lines + (line,))
    return line_comes(edge, lines, line)


def is_closed(edge, thing):
    edge = tupled(edge)
    return is_lines(edge, thing) and lines_that_come(edge, thing) == thing


def is_plot(thing):
    return is_tuple_of(thing, 2) and is_edge(thing[0]) and is_closed(thing[0], thing[1])


def row_of_rules(edge, lines, line):
    edge, lines, line = tupled(edge), tupled(lines), tupled(line)
    need_lines(edge, lines + (line,))
    return ties_of(edge, lines).row_for(link_of(line))


def is_row_of_rules(edge, lines, line, thing):
    edge, lines, line = tupled(edge), tupled(lines), tupled(line)
    need_lines(edge, lines + (line,))
    if not isinstance(thing, tuple) or not thing:
        return False
    told = _told_facts(edge, lines)
    facts = []
    for step in thing:
        if not _is_step(edge, told, facts, step):
            return False
        facts.append(step[0])
    return facts[-1] == link_of(line)


def _told_facts(edge, lines):
    """All that comes by RULE 0."""
    facts = [link_of(line) for line in lines]
    facts += [(("met", name), ("reaches", name)) for name in edge[0] + edge[1]]
    facts += [(("reaches", name), ("reaches", name)) for name in edge[0]]
    return facts + [(("gives", name), ("met", name)) for name in edge[0]]


def _is_step(edge, told, facts, thing):
    """Whether this is a STEP that may stand behind those with these FACTS."""
    if not is_tuple_of(thing, 3) or not is_number(thing[1]) or not 0 <= thing[1] < len(WANTED):
        return False
    fact, rule, places = thing
    if not is_tuple_of(places, WANTED[rule]):
        return False
    if not all([is_number(place) and 0 <= place < len(facts) for place in places]):
        return False
    return fact in (told if rule == 0 else _come_by(edge, rule, [facts[place] for place in places]))


def _come_by(edge, rule, facts):
    """The FACTS that this RULE, not 0, brings out of these."""
    if rule == 5:
        return _come_home(facts[0])
    if any([fact[0] == "home" for fact in facts]):
        return []
    if rule == 3:
        return _come_together(facts[0], facts[1])
    if rule == 4:
        return [(port, port) for port in facts[0] if "met" not in (facts[0][0][0], facts[0][1][0])]
    found = []
    for port, old in _both_ways(facts[0]):
        found += [in_order(port, new) for new in _in_place_of(edge, rule, old)]
    return found


def _both_ways(link):
    return [link, (link[1], link[0])]


def _in_place_of(edge, rule, old):
    """The PORTS that RULE 1 or 2 puts in the place of one."""
    if rule == 1:
        return [("met", old[1])] if old[0] == "gives" else []
    if old[0] == "brings":
        return [(WORD_FOR[old[1]], old[2])] if old[1] in WORD_FOR else []
    if old[0] in RIGHT_FOR and old[1] in edge[1]:
        return [("brings", RIGHT_FOR[old[0]], old[1])]
    return []


def _come_together(first, second):
    """RULE 3."""
    found = []
    for one, near in _both_ways(first):
        for met, other in _both_ways(second):
            if near[0] == "reaches" and met == ("met", near[1]):
                found.append(in_order(one, other))
    return found


def _come_home(fact):
    """RULE 5."""
    if fact[0] == "home":
        return [in_order(("met", fact[1]), ("brings", fact[2], fact[3]))]
    pairs = _both_ways(fact)
    return [("home", one[1], other[1], other[2]) for one, other in pairs if one[0] == "gives" and other[0] == "brings"]


def used_lines(edge, lines, line):
    edge, lines, line = tupled(edge), tupled(lines), tupled(line)
    need_lines(edge, lines + (line,))
    if not line_comes(edge, lines, line):
        return ()
    return tuple([one for one in lines if not line_comes(edge, [other for other in lines if other != one], line)])


def least_lots(edge, lines, line):
    edge, lines, line = tupled(edge), tupled(lines), tupled(line)
    need_lines(edge, lines + (line,))
    return least_sets(lines, lambda some: line_comes(edge, some, line))
