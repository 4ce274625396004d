"""[8], with [2] and [3]: what follows from LINES, ROWS of RULES, lots of LINES."""

import random
import unittest

import houses
import oracle
import ruled
from rules import ODD, Rules, deep, near_misses
from touchrights.follows import (
    all_that_follow, fact_of, follows, is_closed, is_edge, is_plot, is_row_of_rules, least_lots, row_of_rules, used_lines,
)
from touchrights.letters import letter_of

EDGE = (("ann",), ("box",))
BOXES = ((), ("box", "car"))
TOLD = (("flows", "box", "car"), ("has", "car", "own", "box"))
WIDE = (("ann", "bob"), ("box", "car"))
WIDE_RIGHTS = ("hand", "own", "see", "take", "use")
ROW = (((("gives", "car"), ("reaches", "box")), 0, ()), ((("met", "car"), ("reaches", "box")), 1, (0,)))


def asked(edge):
    """LINES that are asked for: all with some rights, one of them told nowhere."""
    return houses.all_lines(edge, ruled.RIGHTS + ("none",))


class Things(Rules, unittest.TestCase):
    def test_is_edge(self):
        good = (((), ()), EDGE, WIDE, (("a",), ("b", "c")), (("abcdefgh",), ()))
        for thing in list(ODD) + [EDGE] + [thing for edge in good for thing in near_misses(edge)]:
            self.assert_same(is_edge(thing), ruled.edge_ok(thing), thing)
        for edge in good + ruled.EDGES:
            self.assertIs(is_edge(edge), True, edge)
        for thing in ((("a",), ("a",)), (("b", "a"), ()), (("a", "a"), ()), ((), (), ()), ((),), (("A",), ()), [(), ()]):
            self.assertIs(is_edge(thing), False, thing)
        names = tuple("a" + one + two for one in "abcdefghij" for two in "abcdefghij")
        self.assertIs(is_edge((names, tuple("b" + name for name in names))), True)

    def test_is_closed(self):
        for edge, lines in ruled.drawn(501, 120):
            told = ruled.closure(edge, lines)
            self.assertIs(is_closed(edge, told), True, (edge, lines))
            for thing in (lines, told[1:], told[:-1], told[::-1], list(told), told + told[:1]):
                self.assert_same(is_closed(edge, thing), ruled.closed_ok(edge, thing), (edge, thing))
        for edge, lines in ((EDGE, ()), (BOXES, TOLD), (EDGE, (("home", "box", "own", "ann"),))):
            for thing in list(ODD) + list(near_misses(ruled.closure(edge, lines))):
                self.assert_same(is_closed(edge, thing), ruled.closed_ok(edge, thing), (edge, thing))

    def test_is_plot(self):
        for edge, lines in ((EDGE, ()), (((), ("box",)), (("home", "box", "own", "box"),)), (BOXES, TOLD[:1])):
            plot = (edge, ruled.closure(edge, lines))
            self.assertIs(is_plot(plot), True)
            for thing in list(ODD) + list(near_misses(plot)) + [(edge, lines), plot[::-1], plot + plot]:
                self.assert_same(is_plot(thing), ruled.plot_ok(thing), thing)

    def test_plots_beyond_the_bounds(self):
        names = tuple("abcdefghijkl")
        edge = (names[:6], names[6:])
        self.assertIs(is_plot((edge, all_that_follow(edge, ()))), True)
        self.assertIs(is_plot((edge, ())), False)
        rights = tuple("r" + sign for sign in "abcdefghij")
        lines = houses.all_lines(EDGE, rights + ("hand", "take"))
        self.assertIs(is_plot((EDGE, lines)), True)
        self.assertIs(is_plot((EDGE, lines[:7] + lines[8:])), ruled.plot_ok((EDGE, lines[:7] + lines[8:])))

    def test_is_row_of_rules_at_values_of_all_kinds(self):
        for line in (("takes", "car", "box"), ("both", "box", "box")):
            for thing in list(ODD) + list(near_misses(ROW)) + [ROW, ROW[:1], ROW[::-1], list(ROW), ROW + ROW]:
                want = ruled.row_ok(BOXES, TOLD, line, thing)
                self.assert_same(is_row_of_rules(BOXES, TOLD, line, thing), want, thing)
        for thing in (deep(12), deep(12, ROW[0]), (((("gives", "car"), ("reaches", "box")), False, ()),)):
            self.assertIs(is_row_of_rules(BOXES, TOLD, TOLD[0], thing), False)
        self.assertIs(is_row_of_rules(BOXES, TOLD, TOLD[0], ROW[:1]), True)
        # True is no number, though it is alike 1.
        self.assertIs(is_row_of_rules(BOXES, TOLD, ("takes", "car", "box"), (ROW[0], (ROW[1][0], True, (0,)))), False)
        self.assertIs(is_row_of_rules(BOXES, TOLD, ("takes", "car", "box"), (ROW[0], (ROW[1][0], 1, (False,)))), False)
        self.assertIs(is_row_of_rules(BOXES, TOLD, ("takes", "car", "box"), (ROW[0], (ROW[1][0], 1, (-2,)))), False)


class Facts(Rules, unittest.TestCase):
    def test_fact_of(self):
        for edge in ruled.EDGES:
            for line in asked(edge):
                self.assert_same(fact_of(edge, line), ruled.fact_of(line), line)
        self.assert_same(fact_of(EDGE, ("hands", "ann", "ann")), (("gives", "ann"), ("met", "ann")))
        self.assert_same(fact_of(EDGE, ("meets", "ann", "box")), (("met", "ann"), ("met", "box")))
        self.assert_same(fact_of(EDGE, ("both", "box", "box")), (("reaches", "box"), ("reaches", "box")))
        self.assert_same(fact_of(EDGE, ("puts", "box", "own", "ann")), (("brings", "own", "ann"), ("reaches", "box")))
        self.assert_same(fact_of(EDGE, ("home", "box", "own", "ann")), ("home", "box", "own", "ann"))


class Follows(Rules, unittest.TestCase):
    def check(self, edge, lines):
        want = ruled.closure(edge, lines)
        self.assert_same(all_that_follow(edge, lines), want, (edge, lines))
        return want

    def test_with_none_with_all_with_each_alone(self):
        for edge in ruled.EDGES:
            self.check(edge, ())
            lines = houses.all_lines(edge, ruled.RIGHTS)
            self.assert_same(self.check(edge, lines), lines)
            for line in lines:
                self.assertIn(line, self.check(edge, (line,)))

    def test_with_one_name_all_pairs(self):
        for edge in ((("a",), ()), ((), ("b",))):
            lines = houses.all_lines(edge, ruled.RIGHTS)
            for one in lines:
                for other in lines:
                    self.check(edge, oracle.ascending((one, other)))

    def test_lines_of_a_name_to_itself(self):
        rng = random.Random(511)
        for edge in ruled.EDGES[5:]:
            own = [line for line in houses.all_lines(edge, ruled.RIGHTS) if line[1] == line[-1]]
            for many in (1, 2, 3, 4, len(own)):
                self.check(edge, oracle.ascending(rng.sample(own, many)))

    def test_drawn_lines(self):
        gained = 0
        for edge, lines in ruled.drawn(512, 300) + ruled.drawn(513, 60, 16):
            gained += len(self.check(edge, lines)) > len(lines) + 3
        self.assertGreater(gained, 100)

    def test_pairs_of_lines_at_two_names(self):
        rng = random.Random(514)
        for edge in ((("a",), ("b",)), ((), ("b", "d"))):
            lines = houses.all_lines(edge, ruled.RIGHTS)
            pairs = [(one, other) for one in lines for other in lines if one < other]
            for pair in rng.sample(pairs, 250):
                self.check(edge, pair)

    def test_follows(self):
        for edge, lines in ruled.drawn(515, 60):
            told = set(ruled.closure(edge, lines))
            for line in asked(edge):
                self.assert_same(follows(edge, lines, line), line in told, (edge, lines, line))

    def test_each_rule_is_wanted(self):
        cases = (
            (BOXES, (("flows", "box", "car"),), ("takes", "car", "box"), True),
            (BOXES, (("puts", "box", "take", "car"),), ("both", "box", "car"), True),
            (BOXES, (("puts", "box", "hand", "car"),), ("flows", "box", "car"), True),
            (BOXES, (("takes", "box", "car"),), ("has", "box", "take", "car"), True),
            ((("ann",), ("box",)), (("takes", "box", "ann"),), ("has", "box", "take", "ann"), False),
            (BOXES, (("hands", "box", "car"),), ("has", "box", "hand", "car"), True),
            ((("ann",), ("box",)), (("hands", "box", "ann"),), ("has", "box", "hand", "ann"), False),
            (BOXES, (("hands", "box", "car"), ("takes", "box", "car")), ("hands", "car", "car"), False),
            (BOXES, (("both", "box", "car"), ("has", "box", "own", "box")), ("puts", "car", "own", "box"), True),
            (BOXES, (("both", "box", "car"),), ("both", "box", "box"), True),
            (BOXES, (("meets", "box", "car"),), ("meets", "box", "box"), False),
            (BOXES, (("flows", "box", "car"), ("has", "box", "own", "box")), ("home", "car", "own", "box"), True),
            (BOXES, (("flows", "box", "car"), ("puts", "box", "own", "box")), ("home", "car", "own", "box"), False),
            (BOXES, (("home", "box", "own", "car"),), ("has", "box", "own", "car"), True),
            (BOXES, (("home", "box", "take", "car"),), ("both", "box", "car"), False),
            ((("ann",), ("car",)), (("home", "ann", "take", "car"),), ("both", "ann", "car"), True),
        )
        for edge, lines, line, want in cases:
            self.assertIs(follows(edge, lines, line), want, (lines, line))
            self.assertEqual(ruled.fact_of(line) in ruled.all_facts(edge, lines), want)

    def test_letters_have_all_that_follows(self):
        """FOR ALL HOUSES: what a HOUSE has, by DEEDS that are done, has all that follows from whatever part of it."""
        rng = random.Random(516)
        for house in houses.random_houses(516, 60, 4, 3, ("take", "take", "hand", "hand", "own")):
            edge, had = houses.edge_of(house), houses.letter(house)
            self.assert_same(all_that_follow(edge, had), had, house)
            self.assertIs(is_closed(edge, had), True)
            self.assertIs(is_plot((edge, had)), True)
            part = oracle.ascending(rng.sample(had, len(had) // 3))
            self.assertLessEqual(set(all_that_follow(edge, part)), set(had))

    def test_what_two_closed_sets_have_is_closed(self):
        pairs = ruled.drawn(517, 120)
        for (edge, one), (_, other) in zip(pairs, pairs[len(ruled.EDGES):]):
            both = set(all_that_follow(edge, one)) & set(all_that_follow(edge, other))
            self.assertIs(is_closed(edge, oracle.ascending(both)), True, (edge, one, other))

    def test_more_lines_bring_no_less(self):
        for edge, lines in ruled.drawn(518, 60):
            self.assertLessEqual(set(all_that_follow(edge, lines[1:])), set(all_that_follow(edge, lines)))

    def test_rights_are_told_apart(self):
        lines = (("flows", "box", "car"), ("has", "box", "own", "car"), ("puts", "box", "see", "car"))
        told = self.check(BOXES, lines)
        self.assertIn(("home", "car", "own", "car"), told)
        self.assertNotIn(("home", "car", "see", "car"), told)
        odd = ((), ("take", "with"))
        self.check(odd, (("flows", "take", "with"), ("puts", "take", "with", "take")))


class Rows(Rules, unittest.TestCase):
    def test_rows_step_by_step(self):
        used = set()
        for edge, lines in ruled.drawn(521, 80):
            told = set(ruled.closure(edge, lines))
            for line in asked(edge):
                row = row_of_rules(edge, lines, line)
                if line not in told:
                    self.assert_same(row, None, (edge, lines, line))
                    continue
                self.assertTrue(ruled.row_ok(edge, lines, line, row), (edge, lines, line, row))
                self.assertIs(is_row_of_rules(edge, lines, line, row), True)
                used |= {rule for _, rule, _ in row}
        self.assertEqual(used, {0, 1, 2, 3, 4, 5})

    def bent(self, rng, row):
        """The ROW bent in one place."""
        facts = [step[0] for step in row]
        place = rng.randrange(len(row))
        fact, rule, places = row[place]
        steps = [(fact, other, places) for other in range(-1, 8)] + [(fact, rule, places + (0,)), (fact, rule, places[1:])]
        steps += [(other, rule, places) for other in rng.sample(facts, min(3, len(facts)))]
        steps += [(fact[::-1], rule, places), (fact, rule, places[::-1]), (fact + fact, rule, places), (fact, rule)]
        for k in range(len(places)):
            for other in (rng.randrange(len(row)), place, place + 1, -1, len(row)):
                steps.append((fact, rule, places[:k] + (other,) + places[k + 1:]))
        found = [row[:place] + (step,) + row[place + 1:] for step in steps]
        found += [row[:place] + row[place + 1:], row[:-1], row + row[:1], row + row[-1:], row[1:], ()]
        return found + [row[:place] + (row[place],) + row[place:]]

    def test_bent_rows(self):
        rng = random.Random(522)
        good = bad = 0
        for edge, lines in ruled.drawn(522, 60):
            told = ruled.closure(edge, lines)
            for line in rng.sample(told, min(5, len(told))):
                for thing in self.bent(rng, row_of_rules(edge, lines, line)):
                    want = ruled.row_ok(edge, lines, line, thing)
                    good, bad = good + want, bad + (not want)
                    self.assert_same(is_row_of_rules(edge, lines, line, thing), want, (edge, lines, line, thing))
        self.assertGreater(good, 100)
        self.assertGreater(bad, 1000)

    def test_rows_of_other_lines_and_of_other_lots(self):
        rng = random.Random(523)
        for edge, lines in ruled.drawn(523, 60):
            told = ruled.closure(edge, lines)
            for line in rng.sample(told, min(4, len(told))):
                row = row_of_rules(edge, lines, line)
                for other in rng.sample(told, min(4, len(told))):
                    self.assertIs(is_row_of_rules(edge, lines, other, row), ruled.row_ok(edge, lines, other, row))
                for less in (lines[1:], lines[:-1], ()):
                    self.assertIs(is_row_of_rules(edge, less, line, row), ruled.row_ok(edge, less, line, row))

    def prefix(self, told, fact):
        """STEPS of which the last one has this FACT: told, or by RULE 3 of two that are told."""
        if fact in told:
            return ((fact, 0, ()),)
        for first in told:
            for second in told:
                if fact in ruled.come_of_two(first, second):
                    return ((first, 0, ()), (second, 0, ()), (fact, 3, (0, 1)))
        return ()

    def all_links(self, edge):
        names = edge[0] + edge[1]
        ports = [(word, name) for word in ("gives", "met", "reaches") for name in names]
        ports += [("brings", right, name) for right in ruled.RIGHTS for name in names]
        links = {ruled.ordered(one, other) for one in ports for other in ports}
        return sorted(links) + [("home", b, right, c) for b in names for right in ruled.RIGHTS for c in names]

    def test_each_step_by_each_rule(self):
        """All STEPS out of one FACT by RULE 1, 2, 4, 5, and whatever comes by RULE 0, at a PERSON and a THING."""
        edge = (("a",), ("b",))
        lines = houses.all_lines(edge, ruled.RIGHTS)
        told, links = ruled.told_facts(edge, lines), self.all_links(edge)
        line, last = lines[0], (ruled.fact_of(lines[0]), 0, ())
        good = 0
        for number, fact in enumerate(links):
            self.assert_same(is_row_of_rules(edge, lines, line, ((fact, 0, ()), last)), fact in told, fact)
            steps = self.prefix(told, fact)
            for rule in (1, 2, 4, 5) if steps else ():
                come = ruled.come_of_one(edge, rule, fact)
                good += len(come)
                near = {other for other in links if set(other) & set(fact)}
                for other in come | near | set(links[number % 7::7]):
                    row = steps + ((other, rule, (len(steps) - 1,)), last)
                    self.assert_same(is_row_of_rules(edge, lines, line, row), other in come, (fact, rule, other))
        self.assertGreater(good, 150)

    def test_each_step_out_of_two(self):
        rng = random.Random(524)
        edge = (("a",), ("b",))
        lines = houses.all_lines(edge, ruled.RIGHTS)
        told, links = sorted(ruled.told_facts(edge, lines), key=repr), self.all_links(edge)
        line, last = lines[0], (ruled.fact_of(lines[0]), 0, ())
        good = 0
        for first in told:
            for second in rng.sample(told, 20):
                come = ruled.come_of_two(first, second)
                good += len(come)
                for fact in come | {first, second, rng.choice(links)}:
                    for rule in (3, 4):
                        row = ((first, 0, ()), (second, 0, ()), (fact, rule, (0, 1)), last)
                        self.assert_same(is_row_of_rules(edge, lines, line, row), rule == 3 and fact in come, row)
        self.assertGreater(good, 100)

    def test_rows_of_many_steps(self):
        row = ROW[:1] * 3000 + ROW[1:]
        self.assertIs(is_row_of_rules(BOXES, TOLD, ("takes", "car", "box"), row), True)
        self.assertIs(is_row_of_rules(BOXES, TOLD, ("takes", "car", "box"), row + ROW[:1]), False)
        self.assertIs(is_row_of_rules(BOXES, TOLD, TOLD[0], row + ROW[:1]), True)

    def test_rule_three_wants_its_two_in_order(self):
        first, second = (("reaches", "box"), ("reaches", "car")), (("brings", "own", "box"), ("met", "car"))
        lines = (("both", "box", "car"), ("has", "car", "own", "box"))
        come = ((("brings", "own", "box"), ("reaches", "box")), 3)
        line = ("puts", "box", "own", "box")
        row = ((first, 0, ()), (second, 0, ()))
        self.assertIs(is_row_of_rules(BOXES, lines, line, row + (come + ((0, 1),),)), True)
        self.assertIs(is_row_of_rules(BOXES, lines, line, row + (come + ((1, 0),),)), False)
        self.assertIs(is_row_of_rules(BOXES, lines, line, row + (come + ((0,),),)), False)
        self.assertIs(is_row_of_rules(BOXES, lines, line, row + (come + ((0, 2),),)), False)


class Lots(Rules, unittest.TestCase):
    def test_used_lines(self):
        seen = set()
        for edge, lines in ruled.drawn(531, 60):
            told = [set(ruled.closure(edge, [other for other in lines if other != one])) for one in lines]
            all_of_them = set(ruled.closure(edge, lines))
            for line in asked(edge):
                want = ()
                if line in all_of_them:
                    want = tuple(one for one, less in zip(lines, told) if line not in less)
                seen.add(len(want))
                self.assert_same(used_lines(edge, lines, line), want, (edge, lines, line))
        self.assertLessEqual({0, 1, 2, 3}, seen)

    def test_least_lots(self):
        rng = random.Random(532)
        seen = set()
        for edge, lines in ruled.drawn(532, 40, 7, ruled.EDGES[3:9]):
            lots = [(some, set(ruled.closure(edge, some))) for some in ruled.subsets(lines)]
            told = lots[-1][1]
            for line in rng.sample(sorted(told), min(6, len(told))) + list(rng.sample(asked(edge), 4)):
                want = ruled.least([some for some, come in lots if line in come])
                seen.add((len(want), max([len(some) for some in want], default=-1)))
                self.assert_same(least_lots(edge, lines, line), want, (edge, lines, line))
        self.assertLessEqual({(0, -1), (1, 0), (1, 1), (1, 2), (2, 1), (2, 2)}, seen)

    def test_least_lots_of_eight_lines(self):
        rng = random.Random(533)
        for edge in (BOXES, EDGE, WIDE):
            lines = ruled.some_lines(rng, edge, 8)
            lots = [(some, set(ruled.closure(edge, some))) for some in ruled.subsets(lines)]
            for line in list(rng.sample(sorted(lots[-1][1]), 5)) + [("home",) + lines[0][1:2] + ("none",) + lines[0][1:2]]:
                want = ruled.least([some for some, come in lots if line in come])
                self.assert_same(least_lots(edge, lines, line), want, (edge, lines, line))

    def test_without_any(self):
        line = ("hands", "ann", "ann")
        self.assert_same(used_lines(EDGE, (line,), line), ())
        self.assert_same(least_lots(EDGE, (line,), line), [()])
        self.assert_same(least_lots(EDGE, (line,), ("both", "box", "box")), [])
        self.assert_same(used_lines(EDGE, (line,), ("both", "box", "box")), ())


class Errors(Rules, unittest.TestCase):
    def test_no_member_lines_ahead_of_line(self):
        bad = (("takes", "bob", "zed"), ("takes", "car", "sue"))
        last = ("home", "ann", "own", "eve")
        for function, more in ((follows, ()), (row_of_rules, ()), (is_row_of_rules, (3,)), (used_lines, ()), (least_lots, ())):
            for lines, line, name in (
                (bad, last, "bob"), (bad[1:], last, "sue"), (TOLD, last, "ann"), (TOLD, ("home", "car", "own", "eve"), "eve"),
                ((), ("meets", "", "Box"), ""), ((), ("puts", "box", "car", "own"), "own"), (TOLD[:1] + bad[1:], TOLD[0], "sue"),
            ):
                self.assert_raises("NoMember", {"name": name}, function, BOXES, lines, line, *more)
        for lines, name in ((bad, "bob"), (bad[1:], "sue"), (TOLD[:1] + bad, "bob")):
            self.assert_raises("NoMember", {"name": name}, all_that_follow, BOXES, lines)
        for line, name in ((bad[0], "bob"), (bad[1], "sue"), (last, "ann"), (("hands", "box", "ann"), "ann")):
            self.assert_raises("NoMember", {"name": name}, fact_of, BOXES, line)
        self.assert_raises("NoMember", {"name": "a"}, follows, ((), ()), (), ("both", "a", "b"))


class Bounds(Rules, unittest.TestCase):
    def test_edges_and_lines_at_the_bounds(self):
        rng = random.Random(541)
        for edge in (WIDE, ((), ("a", "b", "c", "d")), (("a", "b", "c", "d"), ()), (("a",), ("b", "c", "d"))):
            lines = houses.all_lines(edge, WIDE_RIGHTS)
            self.assertGreater(len(lines), 290)
            self.assert_same(all_that_follow(edge, lines), lines)
            for many in (3, 10, 40, 150, len(lines) - 1):
                some = oracle.ascending(rng.sample(lines, many))
                told = all_that_follow(edge, some)
                self.assert_same(told, ruled.closure(edge, some))
                self.assertIs(is_plot((edge, told)), True)
                for line in rng.sample(told, 3):
                    row = row_of_rules(edge, some, line)
                    self.assertTrue(ruled.row_ok(edge, some, line, row))
                    self.assertIs(is_row_of_rules(edge, some, line, row), True)
                    if many < 20:
                        less = [[other for other in some if other != one] for one in some]
                        want = tuple(one for one, rest in zip(some, less) if line not in ruled.closure(edge, rest))
                        self.assert_same(used_lines(edge, some, line), want)

    def test_letters_of_great_houses_are_closed(self):
        for seed in range(545, 549):
            house = houses.house_at_bounds(seed)
            self.assertIs(is_closed(houses.edge_of(house), letter_of(house)), True)


LINES = (TOLD[0], ("takes", "car", "box"), ("both", "box", "box"), ("home", "car", "own", "x"), ("home", "car", "own", "box"))
LOTS = (TOLD, (), TOLD[1:], (("flows", "y", "car"),))
ODD_FEW = (3, None, True, "box", (), EDGE, list(EDGE), TOLD, list(TOLD), ROW, list(ROW), (ROW[0], list(ROW[1])), (EDGE, ()),
           (EDGE, ruled.closure(EDGE, ())), [EDGE, ruled.closure(EDGE, ())])
ASKED = [(BOXES, lines, line) for lines in LOTS for line in LINES]
CALLS = (
    (is_edge, "thing", [(thing,) for thing in ODD_FEW]),
    (fact_of, "edge line", [(BOXES, line) for line in LINES]),
    (all_that_follow, "edge lines", [(BOXES, lines) for lines in LOTS]),
    (follows, "edge lines line", ASKED),
    (is_closed, "edge thing", [(edge, thing) for edge in (EDGE, BOXES) for thing in ODD_FEW]),
    (is_plot, "thing", [(thing,) for thing in ODD_FEW]),
    (row_of_rules, "edge lines line", ASKED),
    (is_row_of_rules, "edge lines line thing", [call + (thing,) for call in ASKED for thing in ODD_FEW]),
    (used_lines, "edge lines line", ASKED),
    (least_lots, "edge lines line", ASKED),
)


class General(Rules, unittest.TestCase):
    def test_rules_of_all_calls(self):
        self.check_calls(CALLS)


if __name__ == "__main__":
    unittest.main()
