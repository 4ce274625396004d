"""[8], its part "Models", with [2] and [3]."""

import random
import unittest

import houses
import oracle
import ruled
from rules import ODD, Rules, near_misses
from touchrights.follows import all_that_follow
from touchrights.letters import letter_of
from touchrights.models import (
    full_house, has_lines, house_without, is_house_without, is_model, model, needless_lines,
)

BOXES = ((), ("box", "car"))
FLOW = (("flows", "box", "car"),)
EDGE = (("ann",), ("box",))
CARRIER = ((("kay",), ("box", "car"), (("kay", "hand", "car"), ("kay", "take", "box"))), ("box", "car"))
OWNER = ((("kay",), ("box", "car"), (("kay", "own", "box"),)), ("box", "car"))
EMPTY = (((), (), ()), ())
SMALL_RIGHTS = ("take", "take", "hand", "hand", "own")


def good_house(edge, thing):
    return houses.house_ok(thing) and houses.edge_of(thing) == edge


def model_ok(edge, lines, thing):
    return good_house(edge, thing) and houses.letter(thing) == ruled.closure(edge, lines)


def without_ok(edge, lines, more, thing):
    if not good_house(edge, thing):
        return False
    judge = houses.Judge(thing)
    return all(judge.has(line) for line in lines) and not any(judge.has(line) for line in more)


def lined(seed, many, most=4, border=4):
    return houses.random_houses(seed, many, most, border, SMALL_RIGHTS)


class Models(Rules, unittest.TestCase):
    def check(self, edge, lines):
        told = model(edge, lines)
        self.assertTrue(good_house(edge, told), (edge, lines, told))
        self.assert_same(houses.letter(told), ruled.closure(edge, lines), (edge, lines))
        self.assertIs(is_model(edge, lines, told), True)
        return told

    def test_of_each_line_alone_of_none_of_all(self):
        for edge in ruled.EDGES[:7]:
            lines = houses.all_lines(edge, ruled.RIGHTS)
            for some in [(), lines] + [(line,) for line in lines]:
                self.check(edge, some)

    def test_of_each_line_alone_with_more_names(self):
        for edge in ruled.EDGES[7:]:
            for line in houses.all_lines(edge, ("own", "take"))[::3]:
                self.check(edge, (line,))

    def test_of_drawn_lines(self):
        for edge, lines in ruled.drawn(601, 120):
            self.check(edge, lines)

    def test_of_other_rights(self):
        rng = random.Random(602)
        for edge in ruled.EDGES[3:8]:
            for _ in range(4):
                self.check(edge, ruled.some_lines(rng, edge, 6, ("hand", "own", "see", "take", "use")))

    def test_names_of_the_edge_are_never_taken_for_inner_ones(self):
        for edge in (((), ("a", "b", "c", "d")), (("a", "b"), ("c", "z")), (("ba", "z"), ("a",)), (("y",), tuple("xz"))):
            for line in houses.all_lines(edge, ("own",))[::4]:
                self.check(edge, (line,))

    def test_names_that_are_rights_too(self):
        for edge in ((("take",), ("b", "hand")), (("hand",), ("own", "take")), (("own", "take"), ("b",))):
            for line in houses.all_lines(edge, ruled.RIGHTS):
                self.check(edge, (line,))

    def test_is_model(self):
        rng = random.Random(603)
        good = 0
        for house in lined(603, 60, 4, 3) + [CARRIER, OWNER, EMPTY]:
            edge, had = houses.edge_of(house), houses.letter(house)
            for lines in (had, had[1:], had[::2], ruled.some_lines(rng, edge, 3), ()):
                want = model_ok(edge, lines, house)
                good += want
                self.assert_same(is_model(edge, lines, house), want, (edge, lines, house))
            self.assertIs(is_model((("no",), ()), (), house), False)
        self.assertGreater(good, 60)

    def test_is_model_at_values_of_all_kinds(self):
        for edge, lines, house in ((BOXES, FLOW, CARRIER), (BOXES, (), OWNER), (((), ()), (), EMPTY), (EDGE, (), EMPTY)):
            things = list(ODD) + list(near_misses(house)) + [house, list(house), house[0], house + house]
            for thing in things:
                self.assert_same(is_model(edge, lines, thing), model_ok(edge, lines, thing), thing)

    def test_a_house_and_a_model_of_its_letter_let_the_same(self):
        rng = random.Random(604)
        for house in lined(604, 30, 4, 3):
            edge = houses.edge_of(house)
            other = model(edge, letter_of(house))
            judges = (houses.Judge(house), houses.Judge(other))
            for _ in range(4):
                outside = houses.random_outside(rng, edge, rng.randint(0, 9))
                self.assertTrue(houses.outside_ok(house, outside) and houses.outside_ok(other, outside))
                self.assertEqual(judges[0].lets(outside), judges[1].lets(outside), (house, other, outside))


class Without(Rules, unittest.TestCase):
    def test_house_without(self):
        rng = random.Random(611)
        none = some = 0
        for edge, lines in ruled.drawn(611, 150):
            told = set(ruled.closure(edge, lines))
            free = [line for line in houses.all_lines(edge, ruled.RIGHTS + ("none",)) if line not in told]
            mores = [ruled.some_lines(rng, edge, many) for many in (0, 1, 3)] + [tuple(free), tuple(free[:1])]
            for more in mores:
                house = house_without(edge, lines, more)
                if told & set(more):
                    none += 1
                    self.assert_same(house, None, (edge, lines, more))
                    continue
                some += 1
                self.assertTrue(without_ok(edge, lines, more, house), (edge, lines, more, house))
                self.assertIs(is_house_without(edge, lines, more, house), True)
        self.assertGreater(none, 50)
        self.assertGreater(some, 300)

    def test_is_house_without(self):
        rng = random.Random(612)
        good = 0
        for house in lined(612, 60, 4, 3):
            edge, had = houses.edge_of(house), houses.letter(house)
            free = [line for line in houses.all_lines(edge, ruled.RIGHTS) if line not in had]
            for _ in range(5):
                lines = oracle.ascending(rng.sample(had, min(len(had), rng.randint(0, 3))))
                more = oracle.ascending(rng.sample(free, min(len(free), rng.randint(0, 3))))
                wrong = ruled.some_lines(rng, edge, 2)
                for one, other in ((lines, more), (lines, wrong), (wrong, more), (more, lines), ((), ())):
                    want = without_ok(edge, one, other, house)
                    good += want
                    self.assert_same(is_house_without(edge, one, other, house), want, (house, one, other))
        self.assertGreater(good, 300)

    def test_is_house_without_at_values_of_all_kinds(self):
        more = (("both", "car", "car"), ("home", "box", "own", "car"))
        for thing in list(ODD) + list(near_misses(CARRIER)) + [CARRIER, list(CARRIER), OWNER, EMPTY]:
            self.assert_same(is_house_without(BOXES, FLOW, more, thing), without_ok(BOXES, FLOW, more, thing), thing)
        self.assertIs(is_house_without(BOXES, (), (), EMPTY), False)
        self.assertIs(is_house_without(((), ()), (), (), EMPTY), True)


class Had(Rules, unittest.TestCase):
    def test_has_lines(self):
        rng = random.Random(621)
        for house in lined(621, 60, 4, 3):
            edge, judge = houses.edge_of(house), houses.Judge(house)
            had = judge.letter()
            for lines in ((), had, had[::2], ruled.some_lines(rng, edge, 1), oracle.ascending(
                    had[:2] + ruled.some_lines(rng, edge, 1))):
                want = all(judge.has(line) for line in lines)
                self.assert_same(has_lines(house, lines), want, (house, lines))

    def test_needless_lines(self):
        seen = set()
        for edge, lines in ruled.drawn(622, 150, 12) + ruled.drawn(623, 20, 20):
            want = []
            for line in lines:
                rest = [other for other in lines if other != line]
                want += [line] if line in ruled.closure(edge, rest) else []
            seen.add(min(len(want), 4))
            self.assert_same(needless_lines(edge, lines), tuple(want), (edge, lines))
        self.assertEqual(seen, {0, 1, 2, 3, 4})
        self.assert_same(needless_lines(EDGE, (("both", "ann", "ann"),)), (("both", "ann", "ann"),))

    def test_needless_each_by_itself(self):
        lines = (("has", "box", "own", "car"), ("home", "box", "own", "car"))
        self.assert_same(needless_lines(BOXES, lines), lines[:1])
        again = (("flows", "ann", "box"), ("puts", "ann", "hand", "box"))
        self.assert_same(needless_lines(EDGE, again), again)

    def test_full_house(self):
        for edge in ruled.EDGES:
            for rights in ((), ("own",), ("hand", "own", "see"), ("take",), ("use",)):
                house = full_house(edge, rights)
                self.assertTrue(good_house(edge, house))
                want = houses.all_lines(edge, set(rights) | {"take", "hand"})
                self.assert_same(houses.letter(house), want, (edge, rights))


class Errors(Rules, unittest.TestCase):
    def test_no_member(self):
        bad, worse = (("takes", "bob", "zed"),), (("home", "box", "own", "eve"),)
        for function, more in ((model, ()), (is_model, (3,)), (needless_lines, ())):
            self.assert_raises("NoMember", {"name": "bob"}, function, BOXES, bad, *more)
            self.assert_raises("NoMember", {"name": "eve"}, function, BOXES, worse, *more)
            self.assert_raises("NoMember", {"name": "zed"}, function, BOXES, FLOW + (("takes", "box", "zed"),), *more)
        for function, more in ((house_without, ()), (is_house_without, (None,))):
            self.assert_raises("NoMember", {"name": "bob"}, function, BOXES, bad, worse, *more)
            self.assert_raises("NoMember", {"name": "eve"}, function, BOXES, worse, bad, *more)
            self.assert_raises("NoMember", {"name": "bob"}, function, BOXES, FLOW, bad, *more)
            self.assert_raises("NoMember", {"name": "bob"}, function, BOXES, FLOW, FLOW + bad, *more)
        self.assert_raises("NoMember", {"name": "kay"}, has_lines, CARRIER, (("home", "kay", "own", "zed"),))
        self.assert_raises("NoMember", {"name": "zed"}, has_lines, CARRIER, FLOW + (("home", "car", "own", "zed"),))
        self.assert_raises("NoMember", {"name": ""}, model, ((), ()), (("both", "", ""),))


class Bounds(Rules, unittest.TestCase):
    def test_edges_and_lines_at_the_bounds(self):
        rng = random.Random(631)
        rights = ("hand", "own", "see", "take", "use")
        for edge in (("ann", "bob"), ("box", "car")), ((), ("a", "b", "c", "d")), (("a", "b", "c", "d"), ()):
            lines = houses.all_lines(edge, rights)
            for many in (20, 150, len(lines)):
                some = oracle.ascending(rng.sample(lines, many))
                told = model(edge, some)
                self.assertTrue(houses.house_ok(told))
                self.assert_same(letter_of(told), all_that_follow(edge, some))
                self.assertIs(is_model(edge, some, told), True)
            self.assert_same(letter_of(full_house(edge, rights)), lines)
            less = oracle.ascending(rng.sample(lines, 5))
            want = [line for line in lines if line not in ruled.closure(edge, less)]
            self.assertTrue(without_ok(edge, less, want[::25], house_without(edge, less, want)))

    def test_houses_at_the_bounds(self):
        house = houses.house_at_bounds(632)
        edge, had = houses.edge_of(house), houses.letter(house)
        self.assertIs(is_model(edge, had, house), True)
        self.assertIs(is_model(edge, had[5:], house), ruled.closure(edge, had[5:]) == had)
        self.assertIs(has_lines(house, had), True)
        self.assert_same(letter_of(model(edge, had)), had)


LOTS = (FLOW, (), (("flows", "box", "x"),), (("takes", "car", "box"),))
ODD_FEW = (3, None, True, "box", (), CARRIER, list(CARRIER), OWNER, (CARRIER[0], list(CARRIER[1])))
CALLS = (
    (model, "edge lines", [(BOXES, lines) for lines in LOTS]),
    (is_model, "edge lines thing", [(BOXES, lines, thing) for lines in LOTS for thing in ODD_FEW]),
    (house_without, "edge lines more", [(BOXES, lines, more) for lines in LOTS for more in LOTS]),
    (is_house_without, "edge lines more thing",
     [(BOXES, lines, more, thing) for lines in LOTS for more in LOTS for thing in ODD_FEW]),
    (has_lines, "house lines", [(house, lines) for house in (CARRIER, OWNER) for lines in LOTS]),
    (needless_lines, "edge lines", [(BOXES, lines) for lines in LOTS]),
    (full_house, "edge rights", [(edge, rights) for edge in (EDGE, BOXES) for rights in ((), ("own",), ("own", "take"))]),
)


class General(Rules, unittest.TestCase):
    def test_rules_of_all_calls(self):
        self.check_calls(CALLS)


if __name__ == "__main__":
    unittest.main()
