"""FACTS, and what the RULES bring out of told LINES."""

from touchrights.forms import as_set

RIGHTS_USED = ("hand", "take")
# For each word of a LINE with no right the words of the two PORTS that it ties.
TIED = {
    "takes": ("met", "reaches"), "hands": ("met", "gives"), "meets": ("met", "met"),
    "flows": ("reaches", "gives"), "both": ("reaches", "reaches"),
}


def link_of(line):
    """The LINK that a LINE tells; a "home" itself."""
    if line[0] == "home":
        return line
    if line[0] in TIED:
        first, second = TIED[line[0]]
        return in_order((first, line[1]), (second, line[2]))
    return in_order(("met" if line[0] == "has" else "reaches", line[1]), ("brings", line[2], line[3]))


def line_of(fact):
    """The LINE that tells this FACT; None if it is a LINK of no LINE."""
    if fact[0] == "home":
        return fact
    low, high = fact
    if low[0] == "brings":
        return _line_with_right(low, high)
    for word, ports in TIED.items():
        if (low[0], high[0]) == ports:
            return _line_of_two(word, low[1], high[1])
        if (high[0], low[0]) == ports:
            return _line_of_two(word, high[1], low[1])
    return None


def _line_with_right(brought, port):
    _, right, goal = brought
    if port[0] == "reaches":
        return ("puts", port[1], right, goal)
    if port[0] == "met" and (right != "take" or port[1] != goal):
        return ("has", port[1], right, goal)
    return None


def _line_of_two(word, one, other):
    if word in ("takes", "flows") and one == other:
        return None
    return (word, one, other)


def in_order(one, other):
    return (one, other) if one <= other else (other, one)


def rights_told(lines):
    """The set of the rights of these LINES, and of those that DEEDS use."""
    return as_set(RIGHTS_USED + tuple([line[2] for line in lines if len(line) == 4]))


def _places_in(bits):
    """The places of the ones among the bits of a number."""
    places = []
    while bits:
        low = bits & -bits
        places.append(low.bit_length() - 1)
        bits = bits - low
    return places


class Ties:
    """The FACTS that come, in these rights, by the RULES out of the LINES that were told.

    A PORT is told by its place among all, in order, a LINK by the two places, a "home" by its LINE. What is tied to
    a PORT is kept as the bits of one number, so that a RULE is done for all PORTS p at once.
    """

    def __init__(self, edge, rights):
        self.people = {name: True for name in edge[0]}
        self.names = as_set(edge[0] + edge[1])
        pairs = [(right, name) for right in rights for name in self.names]
        ports = [(word, name) for word in ("gives", "met", "reaches") for name in self.names]
        self.ports = as_set(ports + [("brings", right, name) for right, name in pairs])
        self.places = {port: place for place, port in enumerate(self.ports)}
        self.met_ones = sum([1 << self.places[("met", name)] for name in self.names])
        self.brought_ones = sum([1 << self.places[("brings", right, name)] for right, name in pairs])
        self.rows = [0 for _ in self.ports]
        self.homes = {name: 0 for name in self.names}
        # For each FACT its RULE and those out of which it comes, which are ahead of it here.
        self.sources = {}

    def has_come(self, fact):
        """Whether this FACT, of any PORTS, has come."""
        return self._key(fact) in self.sources

    def homes_that_came(self):
        """The set of the HOLDS whose LINES "home" have come."""
        return as_set([key[1:] for key in self.sources if key[0] == "home"])

    def lines_that_came(self):
        lines = [line_of(self._fact_at(key)) for key in self.sources]
        return as_set([line for line in lines if line is not None])

    def _fact_at(self, key):
        return key if key[0] == "home" else (self.ports[key[0]], self.ports[key[1]])

    def _key(self, fact):
        if fact[0] == "home":
            return fact
        return tuple([self.places.get(port, -1) for port in fact])

    def row_for(self, fact):
        """The ROW of those of the FACTS that lead to this one; None if it has not come."""
        key = self._key(fact)
        if key not in self.sources:
            return None
        wanted = {key: True}
        for near in reversed(list(self.sources)):
            if near in wanted:
                for earlier in self.sources[near][1]:
                    wanted[earlier] = True
        path = [near for near in self.sources if near in wanted]
        steps = {near: place for place, near in enumerate(path)}
        return tuple([self._step(near, steps) for near in path])

    def _step(self, key, steps):
        rule, out_of = self.sources[key]
        return (self._fact_at(key), rule, tuple([steps[earlier] for earlier in out_of]))

    def tell(self, lines):
        """These LINES are told, too, and all comes that follows."""
        self._tell_what_always_is()
        for line in lines:
            fact = link_of(line)
            if fact[0] == "home":
                self._bring_home(fact[1], self.places[("brings", fact[2], fact[3])], 0, ())
            else:
                self._tie(self.places[fact[0]], self.places[fact[1]], 0, ())
        many = -1
        while many < len(self.sources):
            many = len(self.sources)
            self._follow_on()

    def _tell_what_always_is(self):
        for name in self.names:
            met, near = self.places[("met", name)], self.places[("reaches", name)]
            self._tie(met, near, 0, ())
            if name in self.people:
                self._tie(near, near, 0, ())
                self._tie(self.places[("gives", name)], met, 0, ())

    def _tie(self, one, other, rule, out_of):
        if not (self.rows[one] >> other) & 1:
            self.rows[one] = self.rows[one] | (1 << other)
            self.rows[other] = self.rows[other] | (1 << one)
            self.sources[in_order(one, other)] = (rule, out_of)

    def _bring_home(self, name, port, rule, out_of):
        if not (self.homes[name] >> port) & 1:
            self.homes[name] = self.homes[name] | (1 << port)
            self.sources[self._home(name, port)] = (rule, out_of)

    def _home(self, name, port):
        _, right, goal = self.ports[port]
        return ("home", name, right, goal)

    def _follow_on(self):
        """Each RULE once, for all PORTS."""
        for name in self.names:
            self._swap(1, ("gives", name), ("met", name))
            self._swap(2, ("brings", "take", name), ("reaches", name))
            self._swap(2, ("brings", "hand", name), ("gives", name))
            if name not in self.people:
                self._swap(2, ("reaches", name), ("brings", "take", name))
                self._swap(2, ("gives", name), ("brings", "hand", name))
            self._come_together(name)
            self._come_home(name)
        for place in range(len(self.ports)):
            self._tie_to_itself(place)

    def _swap(self, rule, old, new):
        """What is tied to the old PORT is tied to the new one."""
        old, new = self.places[old], self.places[new]
        for place in _places_in(self.rows[old] & ~self.rows[new]):
            self._tie(place, new, rule, (in_order(place, old),))

    def _come_together(self, name):
        """RULE 3: what reaches the name is tied to all that is met there."""
        near, met = self.places[("reaches", name)], self.places[("met", name)]
        for one in _places_in(self.rows[near]):
            for other in _places_in(self.rows[met] & ~self.rows[one]):
                self._tie(one, other, 3, (in_order(one, near), in_order(met, other)))

    def _tie_to_itself(self, place):
        """RULE 4."""
        others = self.rows[place] & ~self.met_ones
        if others and not (self.met_ones >> place) & 1 and not (others >> place) & 1:
            self._tie(place, place, 4, (in_order(place, _places_in(others)[0]),))

    def _come_home(self, name):
        """RULE 5."""
        given, met = self.places[("gives", name)], self.places[("met", name)]
        for port in _places_in(self.rows[given] & self.brought_ones & ~self.homes[name]):
            self._bring_home(name, port, 5, (in_order(given, port),))
        for port in _places_in(self.homes[name] & ~self.rows[met]):
            self._tie(met, port, 5, (self._home(name, port),))
