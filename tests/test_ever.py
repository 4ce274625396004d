"""[6], with [2] and [3]: what can ever come, and by which DEEDS; beside it the guarantees of [4] and [5]."""

import itertools
import random
import unittest

import houses
import oracle
from rules import ODD, Rules, near_misses
from touchrights.books import beside, part_of, renamed, turned_still, with_hold, with_person, with_thing
from touchrights.deeds import is_row_for
from touchrights.ever import (
    can_ever, can_with, closed_table, deeds_for, fewest_who_act, is_closed_table, opened_by, who_can,
)
from touchrights.touches import circles, gifts, reach

BOOK = (("ann", "bob", "cy", "dan"), ("box", "key"), (
    ("ann", "take", "box"), ("bob", "hand", "box"), ("bob", "own", "key"), ("cy", "take", "bob"), ("dan", "take", "key"),
))
EMPTY = ((), (), ())
RIGHTS = ("take", "take", "hand", "hand", "own")
LETTERS = "abcdefghijklmnopqrstuvwxyz"
NO_PEOPLE = ((), ("box", "key"), (("box", "hand", "key"), ("box", "take", "key"), ("key", "own", "key")))


def books(seed, many, most=4):
    return oracle.random_books(seed, many, most, RIGHTS)


def all_holds(book, rights=("hand", "none", "own", "take")):
    members = book[0] + book[1]
    return [(who, right, what) for who in members for right in rights for what in members]


def more_ever(book):
    """What comes if each PERSON makes a PERSON and two THINGS, with all rights, and that PERSON makes a THING, too."""
    told, members = book, book[0] + book[1]
    rights = ("hand", "own", "take")
    for number, person in enumerate(book[0]):
        kid = "kid" + "abcdefgh"[number]
        for deed in (
            ("make", person, kid, "person", rights), ("make", person, kid + "x", "thing", rights),
            ("make", person, kid + "y", "thing", ("take",)), ("make", kid, kid + "z", "thing", rights),
        ):
            told = oracle.done(told, deed)
    return oracle.among(oracle.ever(told), members)


class Comes(Rules, unittest.TestCase):
    def check(self, book):
        told = oracle.ever(book)
        self.assert_same(closed_table(book), (book[0], book[1], oracle.ascending(told)), book)
        for hold in all_holds(book):
            self.assert_same(can_ever(book, hold), hold in told, (book, hold))

    def test_all_small_books(self):
        for book in oracle.small_books():
            self.check(book)

    def test_random_books(self):
        for book in books(201, 150) + books(202, 40, 6):
            self.check(book)

    def test_odd_books(self):
        for book in (EMPTY, NO_PEOPLE, ((), ("box",), (("box", "take", "box"),)), (("ann",), (), ())):
            self.check(book)
            self.assert_same(deeds_for(book, ("box", "own", "box")) if "box" in book[1] else None, None)

    def test_who_can(self):
        for book in books(203, 60):
            told = oracle.ever(book)
            for right in ("hand", "none", "own", "take"):
                for what in book[0] + book[1]:
                    want = oracle.ascending(hold[0] for hold in told if hold[1:] == (right, what))
                    self.assert_same(who_can(book, right, what), want)

    def test_things_neither_take_nor_hand(self):
        book = (("ann",), ("box", "cup", "key"), (("ann", "own", "key"), ("box", "hand", "cup"), ("box", "take", "ann")))
        self.assertIs(can_ever(book, ("box", "own", "key")), False)
        self.assertIs(can_ever(book, ("cup", "take", "ann")), False)
        alive = (("ann", "box"), ("cup", "key"), book[2])
        self.assertIs(can_ever(alive, ("box", "own", "key")), True)
        self.assertIs(can_ever(alive, ("cup", "own", "key")), True)

    def test_holds_of_things_are_used_by_those_who_reach_them(self):
        book = (("ann",), ("box", "cup", "key"), (("ann", "take", "box"), ("box", "hand", "cup"), ("box", "own", "key")))
        self.assertIs(can_ever(book, ("cup", "own", "key")), True)
        self.assertIs(can_ever(book, ("cup", "take", "box")), True)
        self.assertIs(can_ever(book, ("cup", "take", "cup")), False)

    def test_more_made_ones_bring_no_more(self):
        for book in books(204, 60) + oracle.small_books()[::8]:
            self.assertEqual(set(closed_table(book)[2]), more_ever(book))

    def test_no_member(self):
        for function in (can_ever, deeds_for, opened_by, fewest_who_act):
            self.assert_raises("NoMember", {"name": "x"}, function, BOOK, ("x", "own", "y"))
            self.assert_raises("NoMember", {"name": "y"}, function, BOOK, ("ann", "own", "y"))
            self.assert_raises("NoMember", {"name": ""}, function, EMPTY, ("", "own", ""))
        self.assert_raises("NoMember", {"name": "x"}, who_can, BOOK, "own", "x")
        self.assert_raises("NoMember", {"name": "own"}, who_can, BOOK, "own", "own")


class Rows(Rules, unittest.TestCase):
    def check(self, book, hold, told):
        row = deeds_for(book, hold)
        if hold not in told:
            self.assert_same(row, None, (book, hold))
            return
        self.assertTrue(oracle.row_ok(row), row)
        self.assertTrue(oracle.brings(book, row, hold), (book, hold, row))
        self.assertIs(is_row_for(book, hold, row), True)

    def test_small_books(self):
        for book in oracle.small_books()[::2]:
            told = oracle.ever(book)
            for hold in all_holds(book):
                self.check(book, hold, told)

    def test_random_books(self):
        for book in books(211, 80) + books(212, 30, 6):
            told = oracle.ever(book)
            for hold in all_holds(book):
                self.check(book, hold, told)

    def test_with_names_that_may_be_taken(self):
        letters = "abcdefghijklmnopqrstuvwx"
        book = (tuple(letters), tuple("b" + sign for sign in letters), oracle.ascending(
            [(one, "take", two) for one, two in zip(letters[::2], letters[1::2])]
            + [(one, "take", two) for one, two in zip(letters[2::2], letters[1::2])] + [("a", "own", "ba")]))
        told = oracle.ever(book)
        for hold in (("x", "own", "ba"), ("a", "take", "x"), ("l", "own", "ba")):
            self.assertIn(hold, told)
            self.check(book, hold, told)


class Tables(Rules, unittest.TestCase):
    def table_ok(self, book, thing):
        if not oracle.book_ok(thing) or thing[:2] != book[:2] or not set(book[2]) <= set(thing[2]):
            return False
        return houses.is_closed(thing)

    def test_tables(self):
        rng = random.Random(221)
        closed = 0
        for book in books(221, 120):
            told = closed_table(book)
            self.assertTrue(self.table_ok(book, told))
            self.assertIs(is_closed_table(book, told), True)
            members = book[0] + book[1]
            tables = [book, (told[0], told[1], told[2][:-1]), (told[0], told[1], told[2][1:])]
            for _ in range(6 if members else 0):
                more = told[2] + ((rng.choice(members), rng.choice(RIGHTS + ("new",)), rng.choice(members)),)
                tables.append((told[0], told[1], oracle.ascending(more)))
                tables.append(closed_table(tables[-1]))
            full = oracle.ascending(all_holds(book, ("hand", "own", "take")))
            for thing in tables + [(told[0], told[1], full)]:
                want = self.table_ok(book, thing)
                closed += want
                self.assert_same(is_closed_table(book, thing), want, (book, thing))
                if want:
                    self.assertEqual(oracle.ever(thing), set(thing[2]))
        self.assertGreater(closed, 200)

    def test_values_of_all_kinds(self):
        for book in (BOOK, EMPTY, (("ann",), ("box",), (("ann", "take", "box"),))):
            good = closed_table(book)
            lots = list(ODD) + [book, list(good), (good[0], good[1]), with_person(good, "zoe"), with_thing(good, "zoe")]
            for thing in lots:
                self.assert_same(is_closed_table(book, thing), self.table_ok(book, thing), thing)
        small = (("ann",), ("box",), (("ann", "hand", "box"), ("ann", "take", "box")))
        for thing in near_misses(closed_table(small)):
            self.assert_same(is_closed_table(small, thing), self.table_ok(small, thing), thing)

    def test_a_table_that_lacks_what_never_comes(self):
        for book in books(222, 60):
            table = closed_table(book)
            for hold in all_holds(book):
                self.assertEqual(hold not in table[2], not can_ever(book, hold))


class Changed(Rules, unittest.TestCase):
    def test_opened_by(self):
        for book in books(231, 60):
            told = oracle.ever(book)
            for hold in all_holds(book)[::3]:
                more = (book[0], book[1], oracle.ascending(book[2] + (hold,)))
                self.assert_same(opened_by(book, hold), oracle.ascending(oracle.ever(more) - told), (book, hold))

    def test_opened_by_what_is_there(self):
        for hold in BOOK[2]:
            self.assert_same(opened_by(BOOK, hold), ())

    def test_can_with(self):
        rng = random.Random(232)
        for book in books(232, 60):
            for _ in range(4):
                some = oracle.ascending(rng.sample(book[0], rng.randint(0, len(book[0]))))
                told = oracle.ever(oracle.still(book, [name for name in book[0] if name not in some]))
                for hold in all_holds(book)[::2]:
                    self.assert_same(can_with(book, some, hold), hold in told, (book, some, hold))
        self.assertIs(can_with(BOOK, (), ("bob", "own", "key")), True)
        self.assertIs(can_with(BOOK, (), ("ann", "own", "key")), False)

    def test_can_with_errors_in_order(self):
        self.assert_raises("NoMember", {"name": "a"}, can_with, BOOK, ("a", "box", "zz"), ("x", "own", "y"))
        self.assert_raises("NoMember", {"name": "zz"}, can_with, BOOK, ("ann", "box", "zz"), ("x", "own", "y"))
        self.assert_raises("NoMember", {"name": "x"}, can_with, BOOK, ("ann", "box"), ("x", "own", "y"))
        self.assert_raises("NoMember", {"name": "y"}, can_with, BOOK, ("ann", "box"), ("ann", "own", "y"))
        self.assert_raises("Unfit", {}, can_with, BOOK, ("ann", "box"), ("ann", "own", "box"))
        self.assert_raises("Unfit", {}, can_with, BOOK, ("key",), ("bob", "own", "key"))

    def fewest(self, book, hold):
        for many in range(len(book[0]) + 1):
            for some in itertools.combinations(book[0], many):
                if hold in oracle.ever(oracle.still(book, [name for name in book[0] if name not in some])):
                    return many
        return None

    def test_fewest_who_act(self):
        seen = set()
        chains = [
            (("a", "b", "c", "d"), ("x", "y", "z"), oracle.ascending(holds)) for holds in (
                [("a", "take", "b"), ("b", "take", "c"), ("d", "own", "x")],
                [("a", "own", "z"), ("a", "hand", "x"), ("b", "take", "x"), ("b", "take", "c"), ("c", "hand", "y")],
                [("b", "take", "a"), ("b", "hand", "x"), ("c", "take", "x"), ("c", "take", "d"), ("d", "own", "z")],
                [("a", "hand", "x"), ("b", "take", "x"), ("c", "hand", "y"), ("b", "take", "y"), ("x", "own", "z")],
            )
        ]
        for book in chains + books(233, 40) + books(234, 12, 6) + oracle.small_books()[::12]:
            for hold in all_holds(book, ("none", "own", "take")):
                want = self.fewest(book, hold)
                seen.add(want)
                self.assert_same(fewest_who_act(book, hold), want, (book, hold))
        self.assertLessEqual({None, 0, 1, 2, 3}, seen)


class Guarantees(Rules, unittest.TestCase):
    """Those of [4] and [5] that speak of what comes."""

    def test_more_brings_no_less(self):
        rng = random.Random(241)
        for book in books(241, 60):
            more = with_thing(with_person(book, "pp"), "qq")
            members = more[0] + more[1]
            for _ in range(3):
                more = with_hold(more, (rng.choice(members), rng.choice(RIGHTS), rng.choice(members)))
            self.assertLessEqual(set(closed_table(book)[2]), set(closed_table(more)[2]))

    def test_other_names_and_rights(self):
        for book in books(242, 40):
            for old in book[0] + book[1]:
                want = oracle.with_other_name(closed_table(book)[2], old, "mm")
                self.assertEqual(set(closed_table(renamed(book, old, "mm"))[2]), want)
            swap = {"own": "lend"}
            other = (book[0], book[1], oracle.ascending((w, swap.get(r, r), x) for w, r, x in book[2]))
            want = {(who, swap.get(right, right), what) for who, right, what in closed_table(book)[2]}
            self.assertEqual(set(closed_table(other)[2]), want)

    def test_turned_still(self):
        for book in books(243, 60):
            for name in book[0]:
                self.assertLessEqual(set(closed_table(turned_still(book, (name,)))[2]), set(closed_table(book)[2]))
            self.assert_same(closed_table(turned_still(book, book[0]))[2], book[2])

    def test_parts_that_hang_together(self):
        other = (("pp", "rr"), ("qq",), (("pp", "take", "qq"), ("qq", "own", "pp"), ("rr", "hand", "qq")))
        for one in books(244, 40):
            both = beside(one, other)
            for part in (one, other):
                members = oracle.ascending(part[0] + part[1])
                among = oracle.ascending(oracle.among(closed_table(both)[2], members))
                self.assert_same(closed_table(part_of(both, members))[2], among)

    def test_circles_tell_what_comes(self):
        for book in books(245, 60):
            for hold in all_holds(book):
                who, right, what = hold
                brought = False
                for circle in circles(book):
                    near = {name for person in circle for name in reach(book, person)}
                    getters = set(circle) | {name for person in circle for name in gifts(book, person)}
                    brought |= who in getters and any((name, right, what) in book[2] for name in near)
                self.assert_same(can_ever(book, hold), hold in book[2] or brought)

    def test_all_comes_by_one_row(self):
        for book in books(246, 30):
            told, new = book, ("z" + "".join(part) for part in itertools.product(LETTERS, repeat=4))
            for hold in closed_table(book)[2]:
                row = deeds_for(book, hold)
                # Each row gets NAMES of its own, so that they can be done one behind another.
                swap = {deed[2]: next(new) for deed in row if deed[0] == "make"}
                row = tuple(tuple(swap.get(part, part) if place in (1, 2, 4) and isinstance(part, str) else part
                                  for place, part in enumerate(deed)) for deed in row)
                told, _, barred = oracle.run(told, row)
                self.assertIsNone(barred, (book, hold, row))
            members = book[0] + book[1]
            self.assertEqual(oracle.among(told[2], members), set(closed_table(book)[2]))


class Bounds(Rules, unittest.TestCase):
    def test_a_book_at_the_bounds(self):
        book = oracle.great_book()
        told = oracle.ever(book)
        self.assert_same(closed_table(book), (book[0], book[1], oracle.ascending(told)))
        self.assertIs(is_closed_table(book, closed_table(book)), True)
        self.assertIs(is_closed_table(book, book), False)
        far = (book[0][23], "own", book[1][23])
        self.assertIn(far, told)
        self.assert_same(fewest_who_act(book, far), 24)
        self.assertIs(can_with(book, book[0], far), True)
        self.assertIs(can_with(book, book[0][:12] + book[0][13:], far), False)
        for hold in (far, (book[1][22], "own", book[1][23]), (book[0][0], "hand", book[1][22])):
            self.assertIn(hold, told)
            self.assertTrue(oracle.brings(book, deeds_for(book, hold), hold))
        self.assert_same(deeds_for(book, (book[1][23], "own", book[1][23])), None)

    def test_random_books_at_the_bounds(self):
        for seed in range(3):
            rng = random.Random(250 + seed)
            people, things, _ = oracle.great_book()
            members = people + things
            holds = set()
            while len(holds) < 120:
                right = rng.choice(("take", "hand", "own", "see", "use", "use"))
                holds.add((rng.choice(members), right, rng.choice(members)))
            book = (people, things, oracle.ascending(holds))
            told = oracle.ever(book)
            self.assert_same(closed_table(book)[2], oracle.ascending(told))
            for hold in rng.sample(sorted(told), 25):
                self.assertTrue(oracle.brings(book, deeds_for(book, hold), hold))
            for hold in rng.sample([hold for hold in all_holds(book, ("own", "take")) if hold not in told], 25):
                self.assert_same(deeds_for(book, hold), None)


HOLDS = (("ann", "own", "key"), ("dan", "own", "key"), ("bob", "own", "key"), ("x", "own", "y"), ("ann", "own", "y"))
ODD_FEW = (3, None, True, "box", (), BOOK, list(BOOK), closed_table(BOOK), list(closed_table(BOOK)))
CALLS = (
    (can_ever, "book hold", [(BOOK, hold) for hold in HOLDS]),
    (who_can, "book right what", [(BOOK, right, what) for right in ("take", "own") for what in ("box", "key", "x")]),
    (deeds_for, "book hold", [(BOOK, hold) for hold in HOLDS]),
    (closed_table, "book", [(BOOK,), (EMPTY,), (NO_PEOPLE,)]),
    (is_closed_table, "book thing", [(BOOK, thing) for thing in ODD_FEW]),
    (opened_by, "book hold", [(BOOK, hold) for hold in HOLDS]),
    (can_with, "book some hold", [
        (BOOK, some, hold) for some in ((), ("ann", "bob"), ("ann", "box"), ("ann", "x")) for hold in HOLDS
    ]),
    (fewest_who_act, "book hold", [(BOOK, hold) for hold in HOLDS]),
)


class General(Rules, unittest.TestCase):
    def test_rules_of_all_calls(self):
        self.check_calls(CALLS)


if __name__ == "__main__":
    unittest.main()
