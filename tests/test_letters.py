"""[7], with [2] and [3]: HOUSES, LINES and LETTERS."""

import itertools
import random
import unittest

import houses
import oracle
from rules import ODD, Rules, near_misses
from touchrights.deeds import is_row_for
from touchrights.letters import (
    edge_of, gained, has_line, inner_of, is_house, is_line, is_lines, is_shown_by, letter_of, lines_of, needed_holds,
    question_of, shown_by,
)

BOOK = (("ann",), ("box", "ink"), (("ann", "hand", "ink"), ("ann", "take", "box")))
HOUSE = (BOOK, ("box", "ink"))
OPEN = ((("ann", "bob"), ("box",), (("ann", "take", "bob"), ("bob", "own", "box"), ("box", "hand", "ann"))),
        ("ann", "bob", "box"))
SHUT = (BOOK, ())
EMPTY = (((), (), ()), ())
EDGE = (("dan",), ("box",))
EDGES = (EDGE, ((), ()), ((), ("box", "car")), (("ann", "bob"), ("box", "own")))
SMALL_RIGHTS = ("take", "take", "hand", "hand", "own")


def with_rights(house):
    """All LINES of the HOUSE's EDGE with a right of its HOLDS, "take", "hand", a right that it has not, or none."""
    rights = {right for _, right, _ in house[0][2]} | {"hand", "none", "take"}
    return houses.all_lines(houses.edge_of(house), rights)


def lined(seed, many, most=4, border=4):
    return houses.random_houses(seed, many, most, border, SMALL_RIGHTS)


class Things(Rules, unittest.TestCase):
    def test_is_house(self):
        for thing in list(ODD) + [thing for house in (HOUSE, OPEN, SHUT, EMPTY) for thing in near_misses(house)]:
            self.assert_same(is_house(thing), houses.house_ok(thing), thing)
        for house in (HOUSE, OPEN, SHUT, EMPTY):
            self.assertIs(is_house(house), True)

    def test_is_house_tells_each_fault(self):
        faults = (
            BOOK, (BOOK,), (BOOK, (), ()), [BOOK, ("box",)], (BOOK, ["box"]), (BOOK, ("ink", "box")), (BOOK, ("box", "box")),
            (BOOK, ("bob",)), (BOOK, ("box", "cup")), (BOOK, "box"), (BOOK, None), ((("ann",), ("ann",), ()), ("ann",)),
            (BOOK, (("box",),)), (("box",), BOOK),
        )
        for thing in faults:
            self.assertIs(is_house(thing), False, thing)

    def test_is_house_with_a_border_however_great(self):
        book = oracle.great_book()
        members = oracle.ascending(book[0] + book[1])
        self.assertIs(is_house((book, members)), True)
        self.assertIs(is_house((book, members + ("zz",))), False)
        self.assertIs(is_house((book, members[::-1])), False)

    def test_is_line(self):
        for edge in EDGES:
            names = edge[0] + edge[1]
            lines = houses.all_lines(edge, ("own", "take"))
            for thing in list(ODD) + list(lines) + [odd for line in lines[::3] for odd in near_misses(line)]:
                self.assert_same(is_line(edge, thing), houses.line_ok(edge, thing), thing)
            for word in houses.WITH_RIGHT + houses.WITHOUT + ("give",):
                for b, c in itertools.product(names + ("zz",), repeat=2):
                    for thing in ((word, b, c), (word, b, "take", c), (word, b, "hand", c), (word, b, "Own", c)):
                        self.assert_same(is_line(edge, thing), houses.line_ok(edge, thing), thing)

    def test_the_left_out_lines(self):
        for line in (("has", "box", "take", "box"), ("takes", "dan", "dan"), ("flows", "box", "box"),
                     ("meets", "dan", "box"), ("both", "dan", "box")):
            self.assertIs(is_line(EDGE, line), False, line)
        for line in (("has", "box", "hand", "box"), ("has", "box", "take", "dan"), ("hands", "dan", "dan"),
                     ("meets", "box", "dan"), ("both", "box", "dan"), ("home", "box", "take", "box"),
                     ("puts", "box", "take", "box"), ("hands", "dan", "box"), ("home", "box", "whatever", "box")):
            self.assertIs(is_line(EDGE, line), True, line)

    def test_is_lines(self):
        for edge in EDGES:
            lines = houses.all_lines(edge, ("own",))
            self.assertIs(is_lines(edge, lines), True)
            self.assertIs(is_lines(edge, ()), True)
            for thing in list(ODD) + list(near_misses(lines[:5])) + [lines[:1] * 2, lines[1::-1], list(lines)]:
                self.assert_same(is_lines(edge, thing), houses.lines_ok(edge, thing), thing)

    def test_lines_of(self):
        for edge in EDGES:
            for rights in ((), ("own",), ("take",), ("hand", "own", "take")):
                self.assert_same(lines_of(edge, rights), houses.all_lines(edge, rights))
        self.assertEqual(len(lines_of(EDGE, ("take",))), 24)


class Parts(Rules, unittest.TestCase):
    def test_edge_and_inner(self):
        for house in lined(301, 60):
            (people, things, _), border = house
            self.assert_same(edge_of(house), houses.edge_of(house))
            want = (tuple(n for n in people if n not in border), tuple(n for n in things if n not in border))
            self.assert_same(inner_of(house), want)


class Letters(Rules, unittest.TestCase):
    def check(self, house):
        judge = houses.Judge(house)
        had = letter_of(house)
        self.assertIs(is_lines(edge_of(house), had), True)
        self.assert_same(had, judge.letter(), house)
        return set(had)

    def test_small_houses(self):
        for house in houses.small_houses():
            self.check(house)

    def test_random_houses(self):
        seen = {}
        for house in lined(302, 120) + lined(303, 30, 6):
            for line in self.check(house):
                kind = (line[0], line[1] == line[-1])
                seen[kind] = seen.get(kind, 0) + 1
        self.assertEqual(len(seen), 14)
        self.assertGreater(min(seen.values()), 10)

    def test_other_rights(self):
        for house in houses.random_houses(304, 40, 4, 3, ("take", "take", "hand", "own", "see", "use")):
            self.check(house)

    def test_houses_with_and_without_each_line(self):
        edge = (("b", "c"), ("d", "e"))
        for line in houses.all_lines(edge, ("own",)):
            one, other = line[1], line[-1]
            seen = set()
            for holds in (
                (), (("x", "take", one), ("x", "take", other)), (("x", "hand", other), ("x", "take", one)),
                (("x", "hand", one), ("x", "take", other)), ((one, "own", other), ("x", "hand", one), ("x", "take", one)),
                (("x", "hand", one), ("x", "own", other), ("x", "take", one)),
                (("x", "hand", one), ("x", "hand", other)),
            ):
                house = ((("b", "c", "x"), ("d", "e"), oracle.ascending(holds)), ("b", "c", "d", "e"))
                want = houses.Judge(house).has(line)
                seen.add(want)
                self.assert_same(has_line(house, line), want, (house, line))
            always = line[0] in ("both", "hands", "meets") and one == other and one in edge[0]
            self.assertEqual(seen, {True} if always else {True, False}, line)

    def test_has_line(self):
        for house in lined(305, 60):
            judge = houses.Judge(house)
            for line in with_rights(house):
                self.assert_same(has_line(house, line), judge.has(line), (house, line))

    def test_rights_that_are_nowhere(self):
        for house in lined(306, 20):
            for line in lines_of(edge_of(house), ("none",)):
                if len(line) == 4:
                    self.assertIs(has_line(house, line), False)

    def test_no_member_in_lines(self):
        for function, more in ((has_line, ()), (question_of, ()), (shown_by, ()), (is_shown_by, ((),)), (needed_holds, ())):
            for house in (HOUSE, SHUT):
                self.assert_same(inner_of(HOUSE), (("ann",), ()))
                for line, name in (
                    (("home", "ann", "own", "box"), "ann"), (("takes", "x", "y"), "x"), (("meets", "", "zz"), ""),
                    (("has", "x", "own", "x"), "x"), (("both", "ann", "ann"), "ann"),
                ):
                    self.assert_raises("NoMember", {"name": name}, function, house, line, *more)
            for line, name in ((("home", "box", "own", "ann"), "ann"), (("flows", "box", "y"), "y"),
                               (("puts", "ink", "box", "own"), "own"), (("hands", "ink", "Ink"), "Ink")):
                self.assert_raises("NoMember", {"name": name}, function, HOUSE, line, *more)


class Questions(Rules, unittest.TestCase):
    def is_question(self, edge, line, told):
        """Whether the pair is the one of the table, new NAMES, the mark and the two strangers left open."""
        lines = [line] + ([(line[0], line[2], line[1])] if line[0] == "meets" else [])
        return any(self.is_asked(edge, one, told) for one in lines)

    def is_asked(self, edge, line, told):
        outside, hold = told
        want, asked = houses.question(edge, line)
        known = set(edge[0] + edge[1])
        new = [name for name in outside[0] + outside[1] if name not in known]
        mine = [name for name in want[0] + want[1] if name not in known]
        for other in itertools.permutations(mine) if len(mine) == len(new) else ():
            swap = dict(zip(new, other))
            for mark in {one[1] for one in outside[2]} | {hold[1]}:
                holds = {self.with_mark(one, swap, mark, line) for one in outside[2]}
                parts = [{swap.get(name, name) for name in sort} for sort in outside[:2]]
                if parts == [set(want[0]), set(want[1])] and holds == set(want[2]):
                    if self.with_mark(hold, swap, mark, line) == asked:
                        return True
        return False

    def with_mark(self, hold, swap, mark, line):
        who, right, what = hold
        if line[0] in houses.WITHOUT and right == mark and right not in ("take", "hand"):
            right = "zmark"
        return (swap.get(who, who), right, swap.get(what, what))

    def test_questions_are_those_of_the_table(self):
        for house in lined(311, 25) + [HOUSE, OPEN]:
            edge = houses.edge_of(house)
            for line in with_rights(house):
                told = question_of(house, line)
                self.assertTrue(houses.outside_ok(house, told[0]), (house, line))
                self.assertTrue(self.is_question(edge, line, told), (house, line, told))

    def test_questions_tell_whether_the_line_is_had(self):
        for house in lined(312, 40):
            judge = houses.Judge(house)
            for line in with_rights(house):
                outside, hold = question_of(house, line)
                self.assertEqual(hold in judge.comes(outside), judge.has(line), (house, line))

    def test_new_names_are_no_members(self):
        letters = "abcdefgh"
        for sort in (letters, ["a" + sign for sign in letters], ["s", "t", "it", "mark", "new", "x", "y", "z"]):
            people, things = oracle.ascending(sort), oracle.ascending(name + "q" for name in sort)
            house = ((people, things, ((people[0], "take", things[0]),)), (people[1], things[1]))
            for line in lines_of(edge_of(house), ("own",)):
                self.assertTrue(houses.outside_ok(house, question_of(house, line)[0]), line)


class Shown(Rules, unittest.TestCase):
    def test_rows_are_played(self):
        rows = 0
        for house in lined(321, 40) + lined(322, 10, 6):
            judge = houses.Judge(house)
            for line in with_rights(house):
                row = shown_by(house, line)
                if not judge.has(line):
                    self.assert_same(row, None, (house, line))
                    continue
                rows += 1
                outside, hold = question_of(house, line)
                both = oracle.side_by_side(house[0], outside)
                self.assertTrue(oracle.row_ok(row), row)
                self.assertTrue(oracle.brings(both, row, hold), (house, line, row))
                self.assertIs(is_shown_by(house, line, row), True)
                self.assertIs(is_row_for(both, hold, row), True)
        self.assertGreater(rows, 500)

    def test_is_shown_by_at_values_of_all_kinds(self):
        lines = (("home", "ink", "take", "box"), ("hands", "ink", "ink"), ("flows", "box", "ink"), ("takes", "box", "ink"))
        for line in lines:
            outside, hold = question_of(HOUSE, line)
            both = oracle.side_by_side(BOOK, outside)
            row = shown_by(HOUSE, line) or (("hand", "ann", "ink", "take", "box"),)
            for thing in list(ODD) + list(near_misses(row)) + [row, row[::-1], row + row]:
                want = oracle.row_ok(thing) and oracle.brings(both, thing, hold)
                self.assert_same(is_shown_by(HOUSE, line, thing), want, (line, thing))

    def test_is_shown_by_rows_however_long(self):
        line, row = ("home", "ink", "take", "box"), (("hand", "ann", "ink", "take", "box"),)
        self.assertIs(is_shown_by(HOUSE, line, row * 2000), True)
        self.assertIs(is_shown_by(HOUSE, line, row * 2000 + (("hand", "box", "ink", "take", "box"),)), False)


class Holds(Rules, unittest.TestCase):
    def test_gained(self):
        rng = random.Random(331)
        for house in lined(331, 40):
            (people, things, holds), border = house
            members = people + things
            for _ in range(4 if members else 0):
                hold = (rng.choice(members), rng.choice(("hand", "new", "own", "take")), rng.choice(members))
                more = ((people, things, oracle.ascending(holds + (hold,))), border)
                want = oracle.ascending(set(houses.letter(more)) - set(houses.letter(house)))
                self.assert_same(gained(house, hold), want, (house, hold))
            for hold in holds:
                self.assert_same(gained(house, hold), ())

    def test_gained_no_member(self):
        for house in (HOUSE, SHUT):
            self.assert_raises("NoMember", {"name": "x"}, gained, house, ("x", "own", "y"))
            self.assert_raises("NoMember", {"name": "y"}, gained, house, ("ann", "own", "y"))
        self.assert_same(gained(SHUT, ("ann", "own", "ink")), ())
        lone = (((), ("box",), ()), ("box",))
        want = (("has", "box", "own", "box"), ("home", "box", "own", "box"))
        self.assert_same(gained(lone, ("box", "own", "box")), want)

    def test_needed_holds(self):
        for house in lined(332, 30):
            (people, things, holds), border = house
            judge = houses.Judge(house)
            lesser = [(h, houses.Judge(((people, things, tuple(o for o in holds if o != h)), border))) for h in holds]
            for line in with_rights(house):
                if judge.has(line):
                    want = tuple(hold for hold, less in lesser if not less.has(line))
                    self.assert_same(needed_holds(house, line), want, (house, line))
                else:
                    self.assert_raises("Unfit", {}, needed_holds, house, line)

    def test_needed_holds_errors_in_order(self):
        self.assert_raises("NoMember", {"name": "ann"}, needed_holds, HOUSE, ("takes", "ann", "box"))
        self.assert_raises("Unfit", {}, needed_holds, HOUSE, ("takes", "box", "ink"))
        self.assert_same(needed_holds(OPEN, ("both", "ann", "ann")), ())


class Guarantees(Rules, unittest.TestCase):
    def test_deeds_inside_leave_the_letter(self):
        rng = random.Random(341)
        for house in lined(341, 60, 5, 3):
            deeds = oracle.random_row(rng, house[0], 15, True)
            later = (oracle.run(house[0], deeds)[0], house[1])
            self.assert_same(letter_of(later), letter_of(house), (house, deeds))

    def test_more_has_all_lines(self):
        rng = random.Random(342)
        for house in lined(342, 60):
            (people, things, holds), border = house
            more = (oracle.ascending(people + ("pp",)), oracle.ascending(things + ("qq",)))
            members = more[0] + more[1]
            some = {(rng.choice(members), rng.choice(SMALL_RIGHTS), rng.choice(members)) for _ in range(4)}
            greater = (more + (oracle.ascending(holds + tuple(some)),), border)
            self.assertLessEqual(set(letter_of(house)), set(letter_of(greater)))


class Bounds(Rules, unittest.TestCase):
    def test_houses_at_the_bounds(self):
        for seed in range(351, 354):
            house = houses.house_at_bounds(seed)
            self.assertEqual([len(part) for part in house[0]] + [len(house[1])], [8, 8, 40, 4])
            had = letter_of(house)
            self.assert_same(had, houses.letter(house))
            for line in had[::9]:
                outside, hold = question_of(house, line)
                self.assertTrue(houses.outside_ok(house, outside))
                self.assertTrue(oracle.brings(oracle.side_by_side(house[0], outside), shown_by(house, line), hold))
            line = had[-1]
            want = []
            for hold in house[0][2]:
                less = (house[0][:2] + (tuple(other for other in house[0][2] if other != hold),), house[1])
                if not houses.Judge(less).has(line):
                    want.append(hold)
            self.assert_same(needed_holds(house, line), tuple(want))


LINES = (
    ("flows", "box", "ink"), ("hands", "ink", "ink"), ("takes", "box", "ink"), ("takes", "ann", "ink"), ("both", "box", "x"),
    ("home", "ink", "take", "box"), ("has", "box", "own", "y"), ("meets", "box", "ink"),
)
ODD_FEW = (3, None, True, "box", (), HOUSE, list(HOUSE), ("both", "box", "box"), ["both", "box", "box"],
           (("both", "box", "box"),), (("hand", "ann", "ink", "take", "box"),), [("hand", "ann", "ink", "take", "box")])
CALLS = (
    (is_house, "thing", [(thing,) for thing in ODD_FEW]),
    (edge_of, "house", [(HOUSE,), (OPEN,), (SHUT,), (EMPTY,)]),
    (inner_of, "house", [(HOUSE,), (OPEN,), (SHUT,), (EMPTY,)]),
    (is_line, "edge thing", [(edge, thing) for edge in EDGES for thing in ODD_FEW]),
    (is_lines, "edge thing", [(edge, thing) for edge in EDGES for thing in ODD_FEW]),
    (lines_of, "edge rights", [(edge, rights) for edge in EDGES for rights in ((), ("own", "take"))]),
    (letter_of, "house", [(HOUSE,), (OPEN,), (SHUT,), (EMPTY,)]),
    (has_line, "house line", [(HOUSE, line) for line in LINES]),
    (question_of, "house line", [(HOUSE, line) for line in LINES]),
    (shown_by, "house line", [(HOUSE, line) for line in LINES]),
    (is_shown_by, "house line thing", [(HOUSE, line, thing) for line in LINES for thing in ODD_FEW]),
    (gained, "house hold", [
        (HOUSE, hold) for hold in (("box", "own", "ink"), ("ann", "take", "box"), ("x", "own", "y"), ("box", "own", "y"))
    ]),
    (needed_holds, "house line", [(HOUSE, line) for line in LINES]),
)


class General(Rules, unittest.TestCase):
    def test_rules_of_all_calls(self):
        self.check_calls(CALLS)


if __name__ == "__main__":
    unittest.main()
