"""HOUSES made for LINES: with just what follows from them, or without some others."""

from touchrights.follows import line_comes, lines_that_come, ties_of
from touchrights.forms import as_set, lies_among, need_lines, new_names, tupled
from touchrights.letters import edge_of, is_house, letter_of, lines_of
from touchrights.ties import RIGHTS_USED, Ties, link_of, rights_told


def model(edge, lines):
    edge, lines = tupled(edge), tupled(lines)
    need_lines(edge, lines)
    return house_for(edge, lines, edge[0] + edge[1])


def house_for(edge, lines, taken):
    """A MODEL of the LINES, none of its inner NAMES being one of those taken."""
    people, things, holds = list(edge[0]), list(edge[1]), []
    names = new_names(taken, 2 * len(lines))
    ties = Ties(edge, rights_told(lines))
    ties.tell(())
    for line in lines:
        # What follows already needs no MEMBERS of its own: so the HOUSE stays small.
        if not ties.has_come(link_of(line)):
            ties.tell((line,))
            more = _parts_for(edge[0], line, names)
            people, things, holds = people + more[0], things + more[1], holds + more[2]
    return ((as_set(people), as_set(things), as_set(holds)), as_set(edge[0] + edge[1]))


def _parts_for(people, line, names):
    """New PEOPLE, THINGS and HOLDS that bring a HOUSE this LINE, and what follows from it, but nothing else."""
    if line[0] == "home":
        return ([], [], [line[1:]])
    first, second = link_of(line)
    one = names.pop()
    if "met" not in (first[0], second[0]) or _is_alive(people, first) or _is_alive(people, second):
        return ([one], [], [_hold_for(people, one, first), _hold_for(people, one, second)])
    if first[0] != "met" or second[0] != "met":
        return ([], [one], [_hold_for(people, one, first), _hold_for(people, one, second)])
    # Strangers who only reach one THING do not touch: what the one reaches has to give to what the other reaches.
    other = names.pop()
    return ([], [one, other], [(first[1], "take", one), (one, "hand", other), (second[1], "take", other)])


def _is_alive(people, port):
    """Whether the PORT tells of a circle that a PERSON of the EDGE is in."""
    return port[0] != "brings" and port[1] in people


def _hold_for(people, one, port):
    """The HOLD that gives a new MEMBER this PORT."""
    if port[0] == "brings":
        return (one, port[1], port[2])
    # A PERSON who reaches the new one is in its circle, and nothing is held to that PERSON.
    if port[0] == "met" or _is_alive(people, port):
        return (port[1], "take", one)
    return (one, "take" if port[0] == "reaches" else "hand", port[1])


def is_model(edge, lines, thing):
    edge, lines = tupled(edge), tupled(lines)
    need_lines(edge, lines)
    return is_house(thing) and edge_of(thing) == edge and letter_of(thing) == lines_that_come(edge, lines)


def house_without(edge, lines, more):
    edge, lines, more = tupled(edge), tupled(lines), tupled(more)
    need_lines(edge, lines + more)
    ties = ties_of(edge, lines)
    if any([ties.has_come(link_of(line)) for line in more]):
        return None
    return model(edge, lines)


def is_house_without(edge, lines, more, thing):
    edge, lines, more = tupled(edge), tupled(lines), tupled(more)
    need_lines(edge, lines + more)
    if not is_house(thing) or edge_of(thing) != edge:
        return False
    had = {line: True for line in letter_of(thing)}
    return all([line in had for line in lines]) and not any([line in had for line in more])


def has_lines(house, lines):
    house, lines = tupled(house), tupled(lines)
    need_lines(edge_of(house), lines)
    return lies_among(lines, letter_of(house))


def needless_lines(edge, lines):
    edge, lines = tupled(edge), tupled(lines)
    need_lines(edge, lines)
    return tuple([one for one in lines if line_comes(edge, [other for other in lines if other != one], one)])


def full_house(edge, rights):
    edge, rights = tupled(edge), tupled(rights)
    return model(edge, lines_of(edge, as_set(RIGHTS_USED + rights)))
