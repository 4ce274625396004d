"""[15], with [2] and [3]: what LINES bring, lean sets of them, and LINES under other NAMES."""

import itertools
import random
import unittest

import houses
import oracle
import ruled
import towns
from rules import Rules
from touchrights.lean import (
    anew, apart, common_letter, fewest_lines, is_lean, joined_letters, lean_lines, least_lines, lies_within,
    names_between, renamed_lines,
)

EDGE, NEAR, FAR = ((), ("b", "c", "d")), (("takes", "b", "c"),), (("takes", "c", "d"),)
SMALL = (((), ("b",)), (("a",), ()), (("a",), ("b",)), ((), ("b", "d")), (("a", "c"), ()), ((), ()))


def brings(edge, lines):
    return towns.followed(edge, oracle.ascending(lines))


def pairs(seed, many, most=4, edges=ruled.EDGES):
    """EDGES with two sets of LINES each."""
    rng = random.Random(seed)
    found = []
    for edge, lines in ruled.drawn(seed, many, most, edges):
        more = ruled.some_lines(rng, edge, rng.randint(0, most))
        kind = rng.randint(0, 5)
        if kind == 0:
            more = oracle.ascending(lines + more)
        if kind == 1:
            lines = brings(edge, lines)
        if kind == 2:
            more = brings(edge, more)
        found.append((edge, tuple(sorted(lines)), tuple(sorted(more))))
    return found


class Bringing(Rules, unittest.TestCase):
    def test_by_the_rules(self):
        seen = {"anew": 0, "within": 0, "not within": 0, "common": 0}
        for edge, lines, more in pairs(1501, 300):
            one, other, both = brings(edge, lines), brings(edge, more), brings(edge, lines + more)
            self.assert_same(joined_letters(edge, lines, more), tuple(sorted(both)), (edge, lines, more))
            self.assert_same(common_letter(edge, lines, more), tuple(sorted(one & other)), (edge, lines, more))
            self.assert_same(anew(edge, lines, more), tuple(sorted(both - one - other)), (edge, lines, more))
            self.assert_same(lies_within(edge, lines, more), one <= other, (edge, lines, more))
            seen["anew"] += both > one | other
            seen["common"] += bool(one & other - brings(edge, ()))
            seen["within" if one <= other else "not within"] += 1
        self.assertGreater(min(seen.values()), 40)

    def test_what_both_have_is_closed(self):
        torn = 0
        for edge, lines, more in pairs(1502, 200):
            common = common_letter(edge, lines, more)
            self.assertEqual(brings(edge, common), set(common))
            either = brings(edge, lines) | brings(edge, more)
            torn += brings(edge, either) != either
        self.assertGreater(torn, 40)

    def test_letters_of_houses_put_beside_one_another(self):
        for town in towns.drawn(1503, 40, 3, (2,)):
            (one_edge, one), (other_edge, other) = towns.city_of(town)
            edge = towns.edge_of_all(town)
            want = towns.plot_of(town, towns.names_of(edge))
            self.assert_same((edge, joined_letters(edge, one, other)), want, town)

    def test_people_bring_of_themselves(self):
        self.assert_same(joined_letters((("p",), ()), (), ()), (("both", "p", "p"), ("hands", "p", "p"), ("meets", "p", "p")))
        self.assert_same(joined_letters(((), ()), (), ()), ())
        self.assert_same(anew((("p",), ()), (), ()), ())
        self.assertIs(lies_within((("p",), ()), (("meets", "p", "p"),), ()), True)


def lean(edge, lines):
    return not any(line in brings(edge, [other for other in lines if other != line]) for line in lines)


def struck(edge, lines):
    """The LINES struck one by one, in their order."""
    left = list(lines)
    for line in lines:
        others = [other for other in left if other != line]
        if line in brings(edge, others):
            left = others
    return tuple(left)


class Lean(Rules, unittest.TestCase):
    def test_is_lean(self):
        seen = {True: 0, False: 0}
        for edge, lines, more in pairs(1511, 250, 5):
            for some in (lines, more, struck(edge, lines), oracle.ascending(lines + more)):
                if len(some) > 60:
                    continue
                seen[lean(edge, some)] += 1
                self.assert_same(is_lean(edge, some), lean(edge, some), (edge, some))
        self.assertGreater(min(seen.values()), 150)

    def test_lean_lines(self):
        shorter = 0
        for edge, lines, more in pairs(1512, 200, 5):
            for some in (lines, more, oracle.ascending(lines + more)):
                if len(some) > 60:
                    continue
                got = lean_lines(edge, some)
                self.assert_same(got, struck(edge, some), (edge, some))
                self.assertTrue(lean(edge, got))
                self.assertEqual(brings(edge, got), brings(edge, some))
                shorter += len(got) < len(some)
        self.assertGreater(shorter, 120)

    def test_struck_in_their_order(self):
        """Either one of two brings the other one: the first is struck."""
        lines = (("has", "b", "take", "c"), ("takes", "b", "c"))
        self.assert_same(lean_lines(EDGE, lines), lines[1:])
        self.assertIs(is_lean(EDGE, lines), False)
        self.assertIs(is_lean(EDGE, lines[1:]), True)
        self.assert_same(lean_lines(EDGE, ()), ())
        self.assertIs(is_lean(EDGE, ()), True)

    def test_a_lean_set_brings_less_without_any_line(self):
        for edge, lines, _ in pairs(1513, 120, 4):
            got = lean_lines(edge, lines)
            for line in got:
                self.assertLess(brings(edge, [other for other in got if other != line]), brings(edge, got))

    def test_lean_sets_that_bring_the_same_may_have_unlike_many(self):
        found = 0
        for edge, letter in small_letters(1514, 120, 8):
            lots = [some for some in ruled.subsets(letter) if brings(edge, some) == set(letter) and lean(edge, some)]
            found += len({len(some) for some in lots}) > 1
            self.assertTrue(all(is_lean(edge, some) for some in lots))
        self.assertGreater(found, 3)


def small_letters(seed, many, most):
    """Closed sets of at most so many LINES, on EDGES of all kinds."""
    found = []
    for edge, lines, more in pairs(seed, 12 * many, 3, SMALL + (EDGE, (("a",), ("b", "d")))):
        for some in (lines, more):
            letter = tuple(sorted(brings(edge, some)))
            if len(letter) <= most and (edge, letter) not in found:
                found.append((edge, letter))
    return found[:many]


class Fewest(Rules, unittest.TestCase):
    def test_by_all_sets(self):
        rng = random.Random(1521)
        sizes = set()
        for edge, letter in small_letters(1521, 160, 8):
            lots = [some for some in ruled.subsets(letter) if brings(edge, some) == set(letter)]
            many = min(len(some) for some in lots)
            want = min(some for some in lots if len(some) == many)
            sizes.add((many, len(letter) - many > 2))
            for lines in (letter, rng.choice(lots), want):
                self.assert_same(fewest_lines(edge, lines), many, (edge, lines))
                self.assert_same(least_lines(edge, lines), want, (edge, lines))
        self.assertLessEqual({(0, False), (0, True), (1, False), (1, True), (2, True), (3, True)}, sizes)

    def test_lines_that_are_not_of_lines(self):
        """The least of the fewest may have LINES that were not told."""
        self.assert_same(least_lines(EDGE, NEAR), (("has", "b", "take", "c"),))
        self.assert_same(least_lines(EDGE, NEAR + FAR), (("has", "b", "take", "c"), ("has", "c", "take", "d")))
        self.assert_same(fewest_lines(EDGE, ()), 0)
        self.assert_same(least_lines((("p",), ()), (("both", "p", "p"),)), ())

    def test_no_fewer_of_all_lines_of_the_edge(self):
        """All sets of LINES of EDGES of one NAME, those that were not brought among them."""
        for edge in (((), ("b",)), (("a",), ())):
            lines = houses.all_lines(edge, ("hand", "own", "take"))
            least = {}
            for many in (0, 1, 2, 3):
                for some in itertools.combinations(lines, many):
                    least.setdefault(brings(edge, some), some)
            for letter, some in least.items():
                if len(letter) <= 8:
                    self.assert_same(least_lines(edge, tuple(sorted(letter))), some, (edge, letter))
                    self.assert_same(fewest_lines(edge, some), len(some))


def partitions(names):
    """All ways to put these NAMES into sets."""
    if not names:
        return [[]]
    found = []
    for lots in partitions(names[1:]):
        found.append([(names[0],)] + lots)
        for place, lot in enumerate(lots):
            found.append(lots[:place] + [oracle.ascending(lot + names[:1])] + lots[place + 1:])
    return found


class Apart(Rules, unittest.TestCase):
    def test_by_all_ways(self):
        sizes = set()
        for edge, lines, more in pairs(1531, 240, 2):
            for some in (lines[:1], more[:2]):
                fits = []
                for lots in partitions(edge[0] + edge[1]):
                    if all(any({line[1], line[-1]} <= set(lot) for lot in lots) for line in brings(edge, some)):
                        fits.append(lots)
                best = max(len(lots) for lots in fits)
                want = [oracle.ascending(lots) for lots in fits if len(lots) == best]
                self.assertEqual(len(want), 1)
                sizes.add((best, len(edge[0] + edge[1])))
                self.assert_same(apart(edge, some), want[0], (edge, some))
        self.assertLessEqual({(0, 0), (1, 1), (1, 2), (2, 2), (2, 3), (3, 3), (2, 4), (3, 4)}, sizes)

    def test_what_lines_bring_falls_apart(self):
        for edge, lines, _ in pairs(1532, 150, 2):
            found = set()
            for lot in apart(edge, lines):
                part = tuple(tuple(name for name in sort if name in lot) for sort in edge)
                found |= brings(part, [line for line in lines if line[1] in lot and line[-1] in lot])
            self.assertEqual(found, brings(edge, lines), (edge, lines))


def with_news(lines, news):
    found = set()
    for line in lines:
        told = [news[line[1]], news[line[-1]]]
        if line[0] in ("meets", "both"):
            told.sort()
        found.add((line[0], told[0]) + line[2:-1] + (told[1],))
    return tuple(sorted(found))


def names_for(rng, edge, new=("x", "ann", "take", "meets", "b", "zed")):
    olds = edge[0] + edge[1]
    told = list(zip(olds, rng.sample(new, len(olds))))
    rng.shuffle(told)
    return tuple(told)


class Renamed(Rules, unittest.TestCase):
    def test_by_the_words(self):
        rng = random.Random(1541)
        turned = 0
        for edge, some, more in pairs(1541, 200, 6):
            names = names_for(rng, edge)
            news = dict(names)
            lines = rng.choice((some, tuple(sorted(brings(edge, more)))))
            want = (tuple(oracle.ascending(news[name] for name in sort) for sort in edge), with_news(lines, news))
            self.assert_same(renamed_lines(edge, lines, names), want, (edge, lines, names))
            turned += any(line[0] in ("meets", "both") and news[line[1]] > news[line[2]] for line in lines)
        self.assertGreater(turned, 30)

    def test_rights_stay(self):
        edge, lines = (("b",), ("own",)), (("has", "b", "own", "own"), ("home", "own", "b", "b"))
        want = ((("own",), ("b",)), (("has", "own", "own", "b"), ("home", "b", "b", "own")))
        self.assert_same(renamed_lines(edge, lines, (("b", "own"), ("own", "b"))), want)

    def test_there_and_back(self):
        rng = random.Random(1542)
        for edge, lines, _ in pairs(1542, 150, 6):
            names = names_for(rng, edge)
            other, told = renamed_lines(edge, lines, names)
            self.assert_same(renamed_lines(other, told, tuple((new, old) for old, new in names)), (edge, lines))
            self.assert_same(renamed_lines(edge, lines, names[::-1]), (other, told))
            self.assertEqual(with_news(brings(edge, lines), dict(names)), tuple(sorted(brings(other, told))))

    def test_errors(self):
        lines = (("takes", "b", "e"),)
        good = (("b", "x"), ("c", "y"), ("d", "z"))
        self.assert_raises("NoMember", {"name": "e"}, renamed_lines, EDGE, lines, good)
        self.assert_raises("NoMember", {"name": "f"}, renamed_lines, EDGE, lines, good + (("f", "x"), ("g", "y")))
        self.assert_raises("NoMember", {"name": "e"}, renamed_lines, EDGE, lines, good[:1])
        self.assert_raises("NoMember", {"name": ""}, renamed_lines, EDGE, NEAR, (("", "x"),) + good)
        for names in (good[:2], (), good + good[:1], good + (("b", "w"),), good[:2] + (("d", "x"),), good[1:]):
            self.assert_raises("Unfit", {}, renamed_lines, EDGE, NEAR, names)
        self.assert_raises("Unfit", {}, renamed_lines, EDGE, NEAR, (("b", "x"), ("b", "x"), ("c", "y"), ("d", "z")))
        self.assert_same(renamed_lines(((), ()), (), ()), (((), ()), ()))


def ways_between(edge, lines, other, more):
    """All one-to-one tuples of pairs, PEOPLE to PEOPLE, THINGS to THINGS, by which the LINES become those."""
    found = []
    olds, news = oracle.ascending(edge[0] + edge[1]), other[0] + other[1]
    if len(olds) != len(news):
        return []
    for told in itertools.permutations(news):
        ways = dict(zip(olds, told))
        if all((old in edge[0]) == (new in other[0]) for old, new in ways.items()):
            if with_news(brings(edge, lines), ways) == tuple(sorted(brings(other, more))):
                found.append(tuple(zip(olds, told)))
    return sorted(found)


class Between(Rules, unittest.TestCase):
    def test_all_ways(self):
        rng = random.Random(1551)
        sizes = set()
        for edge, lines, more in pairs(1551, 260, 3):
            names = names_for(rng, edge)
            other, told = renamed_lines(edge, lines, names)
            got = names_between(edge, lines, other, told)
            self.assertIn(tuple(sorted(names)), got)
            sizes.add(len(got))
            self.assert_same(got, ways_between(edge, lines, other, told), (edge, lines, other, told))
            other, told = renamed_lines(edge, more, names)
            got = names_between(edge, lines, other, told)
            sizes.add(len(got))
            self.assert_same(got, ways_between(edge, lines, other, told), (edge, lines, other, told))
        self.assertLessEqual({0, 1, 2, 4, 6}, sizes)

    def test_other_edges(self):
        edges = ruled.EDGES
        for one, other in itertools.product(edges, edges):
            self.assert_same(names_between(one, (), other, ()), ways_between(one, (), other, ()))
        self.assert_same(names_between(((), ()), (), ((), ()), ()), [()])

    def test_all_four_names(self):
        edge, other = ((), ("b", "c", "d", "e")), ((), ("w", "x", "y", "z"))
        self.assertEqual(len(names_between(edge, (), other, ())), 24)
        edge, other = (("b", "c"), ("d", "e")), (("y", "z"), ("w", "x"))
        self.assertEqual(len(names_between(edge, (), other, ())), 4)
        lines, more = (("home", "b", "own", "d"),), (("home", "z", "own", "w"),)
        self.assert_same(names_between(edge, lines, other, more), [(("b", "z"), ("c", "y"), ("d", "w"), ("e", "x"))])

    def test_what_they_bring_counts(self):
        """LINES that are told unlike, and bring the same."""
        self.assert_same(names_between(EDGE, NEAR, EDGE, (("has", "b", "take", "c"),)), [(("b", "b"), ("c", "c"), ("d", "d"))])
        self.assert_same(names_between(EDGE, NEAR, EDGE, (("has", "b", "own", "c"),)), [])


class Errors(Rules, unittest.TestCase):
    def test_no_member(self):
        first, second = (("both", "b", "b"), ("takes", "b", "e"), ("takes", "f", "e")), (("home", "g", "own", "h"),)
        for function in (joined_letters, common_letter, anew, lies_within):
            self.assert_raises("NoMember", {"name": "e"}, function, EDGE, first, second)
            self.assert_raises("NoMember", {"name": "g"}, function, EDGE, NEAR, second)
            self.assert_raises("NoMember", {"name": "h"}, function, EDGE, (), (("home", "b", "own", "h"),))
        for function in (is_lean, lean_lines, fewest_lines, least_lines, apart):
            self.assert_raises("NoMember", {"name": "e"}, function, EDGE, first)
            self.assert_raises("NoMember", {"name": "g"}, function, EDGE, second)
        other = ((), ("g", "h"))
        self.assert_raises("NoMember", {"name": "e"}, names_between, EDGE, first, other, first)
        self.assert_raises("NoMember", {"name": "b"}, names_between, EDGE, NEAR, other, first)
        self.assert_raises("NoMember", {"name": "g"}, names_between, EDGE, second, other, second)
        self.assert_same(names_between(EDGE, NEAR, other, second), [])


class Bounds(Rules, unittest.TestCase):
    def test_four_names_five_rights_sixty_lines(self):
        rng = random.Random(1561)
        rights = ("hand", "own", "see", "take", "use")
        for edge in ((("a", "c"), ("b", "d")), ((), ("b", "d", "e", "f")), (("a", "b", "c", "d"), ())):
            lines = houses.all_lines(edge, rights)
            self.assert_same(joined_letters(edge, lines, ()), lines)
            self.assert_same(common_letter(edge, lines, ()), tuple(sorted(brings(edge, ()))))
            some = oracle.ascending(rng.sample([line for line in lines if line[0] in ("home", "has", "puts")], 60))
            self.assert_same(lean_lines(edge, some), struck(edge, some))
            self.assert_same(is_lean(edge, some), lean(edge, some))
            self.assertEqual(apart(edge, lines), (oracle.ascending(edge[0] + edge[1]),))
            self.assertEqual(len(names_between(edge, lines, edge, lines)), 4 if len(edge[0]) == 2 else 24)

    def test_letters_of_ten_lines(self):
        for edge, letter in small_letters(1562, 400, 10)[-30:]:
            lots = [some for some in ruled.subsets(letter) if brings(edge, some) == set(letter)]
            many = min(len(some) for some in lots)
            self.assert_same(least_lines(edge, letter), min(some for some in lots if len(some) == many))


BAD = (("takes", "b", "e"),)
LOTS = ((), NEAR, FAR, NEAR + FAR, BAD)
ONES = [(EDGE, lines) for lines in LOTS] + [((("p",), ()), (("both", "p", "p"),)), (((), ()), ())]
TWOS = [(EDGE, lines, more) for lines in LOTS for more in LOTS]
CALLS = (
    (joined_letters, "edge lines more", TWOS),
    (common_letter, "edge lines more", TWOS),
    (anew, "edge lines more", TWOS),
    (lies_within, "edge lines more", TWOS),
    (is_lean, "edge lines", ONES),
    (lean_lines, "edge lines", ONES),
    (fewest_lines, "edge lines", ONES),
    (least_lines, "edge lines", ONES),
    (apart, "edge lines", ONES),
    (renamed_lines, "edge lines names", [(EDGE, lines, names) for lines in LOTS for names in (
        (("b", "x"), ("c", "y"), ("d", "z")), (("d", "b"), ("c", "c"), ("b", "d")), (("b", "x"),), (("e", "x"),))]),
    (names_between, "edge lines other more", [
        (EDGE, lines, other, more) for lines in LOTS for other in (EDGE, ((), ("b", "c")), ((), ("x", "y", "z")))
        for more in ((), NEAR, BAD, (("takes", "y", "x"),))]),
)


class General(Rules, unittest.TestCase):
    def test_rules_of_all_calls(self):
        self.check_calls(CALLS)


if __name__ == "__main__":
    unittest.main()
