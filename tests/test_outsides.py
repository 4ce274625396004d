"""[7], its part "Outsides", with [2] and [3]."""

import random
import unittest

import houses
import oracle
from rules import ODD, Rules, near_misses
from touchrights.letters import is_house, letter_of
from touchrights.outsides import (
    alike_outside, brought_outside, hidden_holds, hidden_people, idle_border, is_outside, is_telling, lets, lets_no_more,
    put_beside, telling_outside,
)

CARRIER = ((("kay",), ("box", "car"), (("kay", "hand", "car"), ("kay", "take", "box"))), ("box", "car"))
OWNER = ((("kay",), ("box", "car"), (("kay", "own", "box"),)), ("box", "car"))
LESS = (CARRIER[0], ("box",))
OUTSIDE = (("sam",), ("box", "car", "toy"), (("box", "own", "toy"),))
SMALL_RIGHTS = ("take", "take", "hand", "hand", "own")
EMPTY = (((), (), ()), ())
PERSON = ((("ann", "dan"), (), ()), ("dan",))


def lined(seed, many, most=4, border=4):
    return houses.random_houses(seed, many, most, border, SMALL_RIGHTS)


def pairs(seed, many):
    """Pairs of HOUSES of one EDGE, with unlike inner MEMBERS, or some NAMES in common."""
    rng = random.Random(seed)
    found = []
    for edge in ((("b",), ("c",)), ((), ("b", "c")), (("b", "c"), ()), (("b",), ()), ((), ("c",)), ((), ()),
                 (("b", "d"), ("c",))):
        for _ in range(many):
            pair = []
            for names in (("m", "n"), rng.choice((("m", "n"), ("n", "o")))):
                people, things = oracle.ascending(edge[0] + names[:1]), oracle.ascending(edge[1] + names[1:])
                members = people + things
                holds = {(rng.choice(members), rng.choice(SMALL_RIGHTS), rng.choice(members))
                         for _ in range(rng.randint(0, 7))}
                pair.append(((people, things, oracle.ascending(holds)), oracle.ascending(edge[0] + edge[1])))
            found.append(tuple(pair))
    return found


def outsides_for(rng, edge, many):
    """OUTSIDES by the table of LINES, and others that are made."""
    told = [houses.question(edge, line)[0] for line in houses.all_lines(edge, ("own", "take"))]
    return told + [houses.random_outside(rng, edge, rng.randint(0, 8)) for _ in range(many)]


class Things(Rules, unittest.TestCase):
    def test_is_outside(self):
        for house in (CARRIER, LESS, OWNER, PERSON, EMPTY):
            good = [(houses.edge_of(house)[0], houses.edge_of(house)[1], ()), OUTSIDE, house[0]]
            lots = list(ODD) + good + [thing for one in good for thing in near_misses(one)]
            for thing in lots + [house[0][:2] + ((),), (("dan",), (), ()), ((), ("dan",), ())]:
                self.assert_same(is_outside(house, thing), houses.outside_ok(house, thing), (house, thing))

    def test_each_fault(self):
        for thing in (
            (("sam",), ("box",), ()), (("car", "sam"), ("box",), ()), (("kay",), ("box", "car"), ()),
            ((), ("box", "car", "kay"), ()), (("box", "car"), (), ()), list(OUTSIDE), (OUTSIDE[0], OUTSIDE[1]),
        ):
            self.assertIs(is_outside(CARRIER, thing), False, thing)
        self.assertIs(is_outside(CARRIER, ((), ("box", "car"), ())), True)
        self.assertIs(is_outside(PERSON, ((), ("dan",), ())), False)
        self.assertIs(is_outside(PERSON, (("dan",), (), ())), True)

    def test_is_telling(self):
        lots = list(ODD) + [(OUTSIDE, ("car", "own", "toy")), (OUTSIDE, ("sam", "own", "toy")), (OUTSIDE, ("box", "own", "toy"))]
        lots += list(near_misses((OUTSIDE, ("car", "own", "toy"))))
        lots += [(OUTSIDE, ("car", "own", "kay")), (CARRIER[0], ("car", "hand", "car")), (OUTSIDE, ("car", "hand", "car"))]
        for one, other in ((CARRIER, OWNER), (OWNER, CARRIER), (CARRIER, CARRIER)):
            for thing in lots:
                self.assert_same(is_telling(one, other, thing), self.telling_ok(one, other, thing), thing)
        self.assertIs(is_telling(CARRIER, OWNER, (OUTSIDE, ("car", "own", "toy"))), True)

    def telling_ok(self, one, other, thing):
        if type(thing) is not tuple or len(thing) != 2:
            return False
        outside, hold = thing
        if not houses.outside_ok(one, outside) or not houses.outside_ok(other, outside):
            return False
        if not oracle.triple_ok(outside[0] + outside[1], hold):
            return False
        return hold in houses.Judge(one).comes(outside) and hold not in houses.Judge(other).comes(outside)

    def test_is_telling_needs_an_outside_of_both(self):
        other = ((("sam",), ("box", "car"), ()), ("box", "car"))
        pair = (OUTSIDE, ("car", "own", "toy"))
        self.assertIs(is_telling(CARRIER, OWNER, pair), True)
        self.assertIs(is_telling(CARRIER, other, pair), False)
        self.assertIs(is_telling(other, CARRIER, pair), False)
        strange = ((("toy",), ("box", "car"), (("toy", "hand", "car"), ("toy", "take", "box"))), ("box", "car"))
        self.assertIs(is_telling(strange, OWNER, pair), False)

    def test_is_telling_by_a_great_outside(self):
        names = oracle.ascending("t" + one + two for one in "abcdefgh" for two in "abcdefghijklm")
        holds = oracle.ascending([("box", "own", name) for name in names])
        outside = (("sam",), oracle.ascending(("box", "car") + names), holds)
        self.assertIs(is_telling(CARRIER, OWNER, (outside, ("car", "own", names[50]))), True)
        self.assertIs(is_telling(CARRIER, OWNER, (outside, ("box", "own", names[50]))), False)
        self.assertIs(is_telling(OWNER, CARRIER, (outside, ("car", "own", names[50]))), False)


class Beside(Rules, unittest.TestCase):
    def test_put_beside_lets_and_brought(self):
        rng = random.Random(401)
        for house in lined(401, 25):
            judge = houses.Judge(house)
            edge = houses.edge_of(house)
            for outside in outsides_for(rng, edge, 3)[::3]:
                self.assert_same(put_beside(house, outside), oracle.side_by_side(house[0], outside))
                told = judge.lets(outside)
                self.assert_same(brought_outside(house, outside), oracle.ascending(told - oracle.ever(outside)))
                members = outside[0] + outside[1]
                for hold in [(w, r, x) for w in members for r in ("own", "take") for x in members]:
                    self.assert_same(lets(house, outside, hold), hold in told, (house, outside, hold))

    def test_no_outside(self):
        for outside in ((("sam",), ("box",), ()), (("car",), ("box",), ()), CARRIER[0], ((), (), ())):
            self.assert_raises("Unfit", {}, put_beside, CARRIER, outside)
            self.assert_raises("Unfit", {}, brought_outside, CARRIER, outside)
        self.assert_raises("Unfit", {}, lets, CARRIER, CARRIER[0], ("box", "own", "car"))
        self.assert_raises("Unfit", {}, lets, CARRIER, (("sam",), ("box",), ()), ("box", "own", "sam"))

    def test_no_member_ahead_of_no_outside(self):
        for outside in (OUTSIDE, (("sam",), ("box",), ())):
            self.assert_raises("NoMember", {"name": "kay"}, lets, CARRIER, outside, ("kay", "own", "zoe"))
            self.assert_raises("NoMember", {"name": "zoe"}, lets, CARRIER, outside, ("sam", "own", "zoe"))
            self.assert_raises("NoMember", {"name": ""}, lets, CARRIER, outside, ("", "Own", "kay"))

    def test_strange_rights(self):
        for right in ("", "Own", "ownership", "none"):
            self.assertIs(lets(CARRIER, OUTSIDE, ("car", right, "toy")), False)


class Two(Rules, unittest.TestCase):
    def test_lets_no_more(self):
        """Held against what both let beside many OUTSIDES: those of the table are enough, no other shows more."""
        rng = random.Random(411)
        more = 0
        for one, other in pairs(411, 12):
            edge = houses.edge_of(one)
            judges = (houses.Judge(one), houses.Judge(other))
            lots = [judge.letter() for judge in judges]
            want = set(lots[0]) <= set(lots[1])
            more += not want
            self.assert_same(lets_no_more(one, other), want, (one, other))
            self.assert_same(alike_outside(one, other), lots[0] == lots[1], (one, other))
            found = True
            for outside in outsides_for(rng, edge, 4):
                found = judges[0].lets(outside) <= judges[1].lets(outside) and found
            self.assertEqual(found, want, (one, other))
            self.check_telling(one, other, want)
        self.assertGreater(more, 20)

    def check_telling(self, one, other, want):
        pair = telling_outside(one, other)
        if want:
            self.assert_same(pair, None, (one, other))
            return
        self.assertEqual(type(pair), tuple)
        outside, hold = pair
        for house in (one, other):
            self.assertTrue(houses.outside_ok(house, outside), (house, pair))
        self.assertTrue(oracle.triple_ok(outside[0] + outside[1], hold))
        self.assertIn(hold, houses.Judge(one).comes(outside))
        self.assertNotIn(hold, houses.Judge(other).comes(outside))
        self.assertIs(is_telling(one, other, pair), True)
        self.assertIs(is_telling(other, one, pair), False)
        self.check_a_small_one(one, other)

    def check_a_small_one(self, one, other):
        """An OUTSIDE of two strangers, three new MEMBERS, three HOLDS at most tells one from the other."""
        edge, judges = houses.edge_of(one), (houses.Judge(one), houses.Judge(other))
        lots = [houses.question(edge, line) for line in houses.all_lines(edge, ("hand", "own", "take"))]
        telling = [outside for outside, hold in lots if hold in judges[0].comes(outside) - judges[1].comes(outside)]
        self.assertTrue(telling, (one, other))
        for outside in telling:
            self.assertLessEqual(len(outside[0]) - len(edge[0]), 2)
            self.assertLessEqual(len(outside[0] + outside[1]) - len(edge[0] + edge[1]), 3)
            self.assertLessEqual(len(outside[2]), 3)
            for hold in judges[0].lets(outside) - judges[1].lets(outside):
                self.assertIs(is_telling(one, other, (outside, hold)), True)

    def test_letters_that_lie_in_one_another(self):
        rng = random.Random(412)
        for house in lined(412, 30, 4, 3):
            judge, edge = houses.Judge(house), houses.edge_of(house)
            less = (house[0][:2] + (house[0][2][1:],), house[1])
            other = houses.Judge(less)
            self.assertIs(lets_no_more(less, house), True)
            self.assert_same(alike_outside(less, house), letter_of(less) == letter_of(house))
            for outside in outsides_for(rng, edge, 5)[::4]:
                self.assertLessEqual(other.lets(outside), judge.lets(outside))

    def test_one_house_alike_itself(self):
        for house in (CARRIER, OWNER, LESS, PERSON, EMPTY):
            self.assertIs(lets_no_more(house, house), True)
            self.assertIs(alike_outside(house, house), True)
            self.assert_same(telling_outside(house, house), None)

    def test_unlike_edges_ahead_of_all_else(self):
        turned = ((("box", "kay"), ("car",), ()), ("box", "car"))
        for one, other in ((CARRIER, LESS), (LESS, CARRIER), (CARRIER, turned), (turned, OWNER), (EMPTY, LESS)):
            for function in (lets_no_more, alike_outside, telling_outside):
                self.assert_raises("Unfit", {}, function, one, other)
            for thing in (None, 3, (OUTSIDE, ("car", "own", "toy"))):
                self.assert_raises("Unfit", {}, is_telling, one, other, thing)

    def test_new_names_are_of_neither(self):
        letters = "abcdefgh"
        one = ((tuple(letters[:4]), tuple(letters[4:]), (("a", "take", "e"), ("b", "hand", "e"))), ("a", "e"))
        names = ["i", "j", "k", "l", "m", "n", "o"]
        other = ((oracle.ascending(["a"] + names[:3]), oracle.ascending(["e"] + names[3:]), ()), ("a", "e"))
        self.check_telling(one, other, False)
        self.check_telling(other, one, True)


class Hidden(Rules, unittest.TestCase):
    def test_hidden_holds_and_people(self):
        some = 0
        for house in lined(421, 40, 4, 3):
            (people, things, holds), border = house
            had = houses.letter(house)
            want = []
            for hold in holds:
                less = ((people, things, tuple(other for other in holds if other != hold)), border)
                want += [hold] if houses.letter(less) == had else []
            self.assert_same(hidden_holds(house), want, house)
            inner = [name for name in people if name not in border]
            want = tuple(name for name in inner if houses.letter((oracle.still(house[0], (name,)), border)) == had)
            some += len(want)
            self.assert_same(hidden_people(house), want, house)
        self.assertGreater(some, 5)

    def test_hidden_holds_are_ascending_and_new(self):
        house = ((("a",), ("b", "c"), (("a", "own", "b"), ("a", "own", "c"), ("b", "hand", "c"), ("c", "take", "a"))), ())
        self.assert_same(hidden_holds(house), list(house[0][2]))
        self.assertIsNot(hidden_holds(house), hidden_holds(house))
        self.assert_same(hidden_people(house), ("a",))
        self.assert_same(idle_border(house), ())

    def test_hidden_holds_by_itself_each(self):
        holds = (("a", "take", "b"), ("c", "hand", "d"), ("c", "own", "b"), ("d", "own", "b"))
        house = ((("a", "c"), ("b", "d"), holds), ("b", "d"))
        self.assert_same(hidden_holds(house), [("c", "own", "b"), ("d", "own", "b")])


class Idle(Rules, unittest.TestCase):
    def replaced(self, house, name):
        """The HOUSE with an inner new MEMBER in the place of this NAME of its border, in all HOLDS."""
        (people, things, holds), border = house
        swap = {name: "inmost"}
        book = tuple(oracle.ascending(swap.get(n, n) for n in sort) for sort in (people, things))
        book += (oracle.ascending(oracle.with_other_name(holds, name, "inmost")),)
        return (book, tuple(n for n in border if n != name))

    def test_idle_border(self):
        rng = random.Random(431)
        idle = 0
        for house in lined(431, 60, 4, 3):
            judge, edge = houses.Judge(house), houses.edge_of(house)
            want = []
            for name in house[1]:
                other = houses.Judge(self.replaced(house, name))
                same = True
                for outside in outsides_for(rng, edge, 5):
                    same = judge.lets(outside) == other.lets(outside) and same
                want += [name] if same else []
            idle += len(want)
            self.assert_same(idle_border(house), tuple(want), house)
        self.assertGreater(idle, 10)

    def test_by_the_letter(self):
        for house in lined(432, 60):
            left = [line for line in letter_of(house) if not (
                line[0] in ("both", "hands", "meets") and line[1] == line[2] and line[1] in house[0][0])]
            told = {name for line in left for name in (line[1], line[-1])}
            self.assert_same(idle_border(house), tuple(name for name in house[1] if name not in told))

    def test_a_right_is_no_name(self):
        house = (((), ("box", "own"), (("box", "own", "box"),)), ("box", "own"))
        self.assert_same(idle_border(house), ("own",))
        self.assert_same(idle_border(((("own",), ("box",), (("own", "own", "box"),)), ("box", "own"))), ())
        self.assert_same(idle_border(((("own",), (), (("own", "own", "own"),)), ("own",))), ())
        self.assert_same(idle_border(PERSON), ("dan",))
        self.assert_same(idle_border(((("dan",), (), (("dan", "own", "dan"),)), ("dan",))), ())
        thing = (((), ("dan",), (("dan", "hand", "dan"), ("dan", "take", "dan"))), ("dan",))
        self.assert_same(idle_border(thing), ())


class Bounds(Rules, unittest.TestCase):
    def test_houses_at_the_bounds(self):
        house = houses.house_at_bounds(441)
        (people, things, holds), border = house
        self.assertEqual([len(part) for part in house[0]] + [len(border)], [8, 8, 40, 4])
        had = letter_of(house)
        want = [h for h in holds if letter_of(((people, things, tuple(o for o in holds if o != h)), border)) == had]
        self.assert_same(hidden_holds(house), want)
        inner = [name for name in people if name not in border]
        want = tuple(name for name in inner if letter_of((oracle.still(house[0], (name,)), border)) == had)
        self.assert_same(hidden_people(house), want)
        other = ((people, things, holds[::2]), border)
        self.assertIs(lets_no_more(other, house), True)
        pair = telling_outside(house, other)
        self.assertIs(is_telling(house, other, pair), True)
        self.assertIn(pair[1], houses.Judge(house).comes(pair[0]))
        self.assertNotIn(pair[1], houses.Judge(other).comes(pair[0]))

    def test_outsides_at_the_bounds(self):
        house = houses.house_at_bounds(442)
        rng = random.Random(442)
        edge = houses.edge_of(house)
        outer = ("oa", "ob", "oc", "od", "oe", "of")
        people, things = oracle.ascending(edge[0] + outer), oracle.ascending(edge[1] + tuple("x" + name for name in outer))
        members = people + things
        holds = set()
        while len(holds) < 40:
            holds.add((rng.choice(members), rng.choice(("take", "hand", "own", "see")), rng.choice(members)))
        outside = (people, things, oracle.ascending(holds))
        self.assertIs(is_outside(house, outside), True)
        told = houses.Judge(house).lets(outside)
        self.assert_same(brought_outside(house, outside), oracle.ascending(told - oracle.ever(outside)))


PAIR = (OUTSIDE, ("car", "own", "toy"))
ODD_FEW = (3, None, True, "box", (), OUTSIDE, list(OUTSIDE), PAIR, list(PAIR), (list(OUTSIDE), ("car", "own", "toy")),
           (OUTSIDE, ["car", "own", "toy"]))
BESIDE = (OUTSIDE, CARRIER[0], (("sam",), ("box",), ()), ((), ("box", "car"), ()))
HOLDS = (("car", "own", "toy"), ("kay", "own", "toy"), ("car", "own", "kay"), ("sam", "own", "toy"), ("box", "Own", "car"))
BOTH = ((CARRIER, OWNER), (OWNER, CARRIER), (CARRIER, CARRIER), (CARRIER, LESS), (EMPTY, EMPTY))
HOUSES = ((CARRIER,), (OWNER,), (LESS,), (PERSON,), (EMPTY,))
CALLS = (
    (is_outside, "house thing", [(house, thing) for house in (CARRIER, LESS) for thing in ODD_FEW]),
    (put_beside, "house outside", [(CARRIER, outside) for outside in BESIDE]),
    (lets, "house outside hold", [(CARRIER, outside, hold) for outside in BESIDE for hold in HOLDS]),
    (brought_outside, "house outside", [(CARRIER, outside) for outside in BESIDE]),
    (lets_no_more, "one other", BOTH),
    (alike_outside, "one other", BOTH),
    (telling_outside, "one other", BOTH),
    (is_telling, "one other thing", [both + (thing,) for both in BOTH for thing in ODD_FEW]),
    (hidden_holds, "house", HOUSES),
    (hidden_people, "house", HOUSES),
    (idle_border, "house", HOUSES),
)


class General(Rules, unittest.TestCase):
    def test_rules_of_all_calls(self):
        self.check_calls(CALLS)

    def test_the_houses_of_these_tests(self):
        for house in (CARRIER, OWNER, LESS, PERSON, EMPTY):
            self.assertIs(is_house(house), True)


if __name__ == "__main__":
    unittest.main()
