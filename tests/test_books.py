"""[4], with [2] and [3]: BOOKS."""

import random
import unittest

import oracle
from rules import ODD, Rules, near_misses
from touchrights.books import (
    beside, common_members, held_to, holds_of, is_book, is_hold, is_person, lies_in, members_of, part_of, renamed,
    rights_in, turned_alive, turned_still, with_hold, with_person, with_thing, without_hold, without_member,
)

BOOK = (("ann", "bob"), ("box", "own"), (("ann", "take", "bob"), ("bob", "own", "box"), ("box", "own", "box")))
OTHER = (("bob", "cy"), ("box",), (("bob", "hand", "bob"), ("cy", "hand", "bob")))
EMPTY = ((), (), ())
STRANGE = ("", "Ann", "abcdefghi", "a b", "a1", "nobody", "\u00e4nn", "take", "ann ")
NO_NAMES = ("", "Ann", "abcdefghi", "a b", "a1", "\u00e4nn", "ann\n", "a-b", "\u00aa")


class Things(Rules, unittest.TestCase):
    def test_is_book_at_odd_values(self):
        for thing in ODD:
            self.assert_same(is_book(thing), oracle.book_ok(thing), thing)

    def test_is_book_at_near_misses(self):
        for book in (BOOK, OTHER, EMPTY, (("ann",), (), ()), ((), ("ann",), (("ann", "ann", "ann"),))):
            self.assertIs(is_book(book), True)
            for thing in near_misses(book):
                self.assert_same(is_book(thing), oracle.book_ok(thing), thing)

    def test_is_book_tells_each_fault(self):
        good = (("ann",), ("box",), (("ann", "own", "box"),))
        faults = (
            (("ann",), ("ann",), ()), (("bob", "ann"), (), ()), (("ann", "ann"), (), ()), ((), ("b", "a"), ()),
            (("ann",), (), (("ann", "own", "box"),)), (("ann",), (), (("box", "own", "ann"),)),
            (("ann",), (), (("ann", "Own", "ann"),)), (("ann",), (), (("ann", "", "ann"),)),
            (("ann",), (), (("ann", "own", "ann"), ("ann", "hand", "ann"))),
            (("ann",), (), (("ann", "own", "ann"), ("ann", "own", "ann"))), (("ann",), (), (("ann", "own"),)),
            (["ann"], ("box",), ()), (("ann",), ("box",), [("ann", "own", "box")]),
            (("ann",), ("box",), (["ann", "own", "box"],)), list(good), good + ((),), good[:2], ("ann", "box", ()),
            (("ann",), ("box",), (("ann", "ownership", "box"),)), (("anabellas",), (), ()), (("Ann",), (), ()),
        )
        self.assertIs(is_book(good), True)
        for thing in faults:
            self.assertIs(is_book(thing), False, thing)

    def test_is_book_of_however_many(self):
        letters = "abcdefghijklmnopqrstuvwxyz"
        people = tuple(one + two + three for one in letters[:6] for two in letters for three in letters)
        things = tuple("z" + name for name in people)
        holds = tuple((name, right, name) for name in people for right in ("hand", "own", "take"))
        self.assertIs(is_book((people, things, holds)), True)
        self.assertIs(is_book((people, things, holds[::-1])), False)
        self.assertIs(is_book((people, things + people[:1], holds)), False)
        self.assertIs(is_book((people, (), holds + holds[-1:])), False)

    def test_is_hold(self):
        for book in (BOOK, OTHER, EMPTY):
            for thing in list(ODD) + list(near_misses(("bob", "own", "box"))) + list(book[2]):
                want = type(thing) is tuple and any(oracle.triple_ok(hold, thing) and thing == hold for hold in book[2])
                self.assert_same(is_hold(book, thing), want, thing)
        self.assertIs(is_hold(BOOK, ("bob", "own", "box")), True)
        self.assertIs(is_hold(BOOK, ("box", "own", "bob")), False)
        self.assertIs(is_hold(BOOK, ["bob", "own", "box"]), False)


class Looks(Rules, unittest.TestCase):
    def test_against_their_words(self):
        for book in oracle.random_books(4, 60):
            people, things, holds = book
            members = oracle.ascending(people + things)
            self.assert_same(members_of(book), members)
            self.assert_same(rights_in(book), oracle.ascending(hold[1] for hold in holds))
            for name in members:
                self.assert_same(is_person(book, name), name in people)
                self.assert_same(holds_of(book, name), oracle.ascending(h[1:] for h in holds if h[0] == name))
                self.assert_same(held_to(book, name), oracle.ascending(h[:2] for h in holds if h[2] == name))

    def test_lists_of_an_empty_book(self):
        self.assert_same(members_of(EMPTY), ())
        self.assert_same(rights_in(EMPTY), ())
        self.assert_same(holds_of((("ann",), (), ()), "ann"), ())
        self.assert_same(held_to((("ann",), (), ()), "ann"), ())

    def test_no_member(self):
        for name in STRANGE:
            for function in (is_person, holds_of, held_to, without_member):
                self.assert_raises("NoMember", {"name": name}, function, BOOK, name)
                self.assert_raises("NoMember", {"name": name}, function, EMPTY, name)


class Changes(Rules, unittest.TestCase):
    def test_with_member(self):
        for book in oracle.random_books(5, 30):
            for name in ("a", "mm", "zzzzzzzz"):
                people, things, holds = book
                self.assert_same(with_person(book, name), (oracle.ascending(people + (name,)), things, holds))
                self.assert_same(with_thing(book, name), (people, oracle.ascending(things + (name,)), holds))

    def test_with_member_refuses(self):
        for function in (with_person, with_thing):
            for name in NO_NAMES:
                self.assert_raises("Unfit", {}, function, BOOK, name)
            for name in members_of(BOOK):
                self.assert_raises("Twice", {"name": name}, function, BOOK, name)

    def test_with_and_without_hold(self):
        for book in oracle.random_books(6, 30):
            people, things, holds = book
            for who in people + things:
                for what in people + things:
                    for right in ("hand", "new"):
                        hold = (who, right, what)
                        self.assert_same(with_hold(book, hold), (people, things, oracle.ascending(holds + (hold,))))
                        if hold not in holds:
                            self.assert_raises("NoHold", {"hold": hold}, without_hold, book, hold)
                            self.assert_raises("NoHold", {"hold": hold}, without_hold, book, list(hold))
            for hold in holds:
                self.assert_same(without_hold(book, hold)[2], tuple(h for h in holds if h != hold))
                self.assert_same(without_hold(book, hold)[:2], book[:2])
                self.assert_same(with_hold(book, hold), book)

    def test_hold_refuses_in_order(self):
        for function in (with_hold, without_hold):
            self.assert_raises("NoMember", {"name": "x"}, function, BOOK, ("x", "Own", "y"))
            self.assert_raises("NoMember", {"name": "y"}, function, BOOK, ("ann", "Own", "y"))
            self.assert_raises("NoMember", {"name": "x"}, function, BOOK, ("x", "own", "box"))
            self.assert_raises("NoMember", {"name": ""}, function, EMPTY, ("", "own", ""))
        for right in NO_NAMES:
            self.assert_raises("Unfit", {}, with_hold, BOOK, ("ann", right, "box"))
            self.assert_raises("NoHold", {"hold": ("ann", right, "box")}, without_hold, BOOK, ("ann", right, "box"))
        self.assert_raises("NoHold", {"hold": ("bob", "take", "ann")}, without_hold, BOOK, ("bob", "take", "ann"))

    def test_without_member_and_part(self):
        rng = random.Random(7)
        for book in oracle.random_books(7, 40):
            people, things, holds = book
            members = members_of(book)
            some = oracle.ascending(rng.sample(members, rng.randint(0, len(members))))
            lots = [(some, part_of(book, some))]
            lots += [(tuple(n for n in members if n != name), without_member(book, name)) for name in members]
            for left, told in lots:
                want = (
                    tuple(n for n in people if n in left), tuple(n for n in things if n in left),
                    tuple(h for h in holds if h[0] in left and h[2] in left),
                )
                self.assert_same(told, want)
        self.assert_same(part_of(BOOK, ()), EMPTY)
        self.assert_same(part_of(BOOK, members_of(BOOK)), BOOK)

    def test_some_refuses_the_first(self):
        for function in (part_of, turned_still, turned_alive):
            self.assert_raises("NoMember", {"name": "a"}, function, BOOK, ("a", "ann", "zz"))
            self.assert_raises("NoMember", {"name": "cy"}, function, BOOK, ("ann", "cy", "zz"))
            self.assert_raises("NoMember", {"name": "zz"}, function, BOOK, ("ann", "bob", "zz"))
            self.assert_raises("NoMember", {"name": ""}, function, EMPTY, ("",))

    def test_renamed(self):
        for book in oracle.random_books(8, 30):
            for old in members_of(book):
                swap = {old: "mm"}
                people, things = (oracle.ascending(swap.get(n, n) for n in book[place]) for place in (0, 1))
                holds = oracle.ascending(oracle.with_other_name(book[2], old, "mm"))
                self.assert_same(renamed(book, old, "mm"), (people, things, holds))
                self.assert_same(renamed(book, old, old), book)

    def test_renamed_keeps_rights(self):
        book = (("own",), (), (("own", "own", "own"),))
        self.assert_same(renamed(book, "own", "zoe"), (("zoe",), (), (("zoe", "own", "zoe"),)))

    def test_renamed_refuses_in_order(self):
        self.assert_raises("NoMember", {"name": "cy"}, renamed, BOOK, "cy", "Bad")
        self.assert_raises("NoMember", {"name": "cy"}, renamed, BOOK, "cy", "ann")
        for new in NO_NAMES:
            self.assert_raises("Unfit", {}, renamed, BOOK, "ann", new)
        for new in ("bob", "box", "own"):
            self.assert_raises("Twice", {"name": new}, renamed, BOOK, "ann", new)

    def test_turned(self):
        rng = random.Random(9)
        for book in oracle.random_books(9, 40):
            people, things, holds = book
            members = members_of(book)
            some = oracle.ascending(rng.sample(members, rng.randint(0, len(members))))
            left = tuple(n for n in people if n not in some)
            self.assert_same(turned_still(book, some), (left, oracle.ascending(things + some), holds))
            left = tuple(n for n in things if n not in some)
            self.assert_same(turned_alive(book, some), (oracle.ascending(people + some), left, holds))


class Two(Rules, unittest.TestCase):
    def test_beside(self):
        self.assert_same(beside(BOOK, EMPTY), BOOK)
        self.assert_same(beside(EMPTY, BOOK), BOOK)
        self.assert_same(beside(BOOK, BOOK), BOOK)
        books = oracle.random_books(10, 60)
        for one, other in zip(books, books[1:]):
            clash = set(one[0]) & set(other[1]) | set(one[1]) & set(other[0])
            if clash:
                self.assert_raises("Unfit", {}, beside, one, other)
            else:
                self.assert_same(beside(one, other), oracle.side_by_side(one, other))

    def test_beside_refuses_one_name_of_two_sorts(self):
        self.assert_raises("Unfit", {}, beside, (("ann",), (), ()), ((), ("ann",), ()))
        self.assert_raises("Unfit", {}, beside, ((), ("ann", "box"), ()), (("ann",), ("box",), ()))

    def test_common_members(self):
        books = oracle.random_books(11, 60)
        for one, other in zip(books, books[1:]):
            want = oracle.ascending(set(one[0] + one[1]) & set(other[0] + other[1]))
            self.assert_same(common_members(one, other), want)

    def test_lies_in(self):
        books = oracle.random_books(12, 40, 3)
        for one in books:
            for other in books:
                want = all(set(one[place]) <= set(other[place]) for place in range(3))
                self.assert_same(lies_in(one, other), want)
        for place in range(3):
            less = tuple(BOOK[k][1:] if k == place else BOOK[k] for k in range(3))
            self.assertIs(lies_in(BOOK, less), False)
        self.assertIs(lies_in(BOOK, BOOK), True)
        self.assertIs(lies_in(EMPTY, BOOK), True)
        self.assertIs(lies_in((BOOK[0], BOOK[1], BOOK[2][1:]), BOOK), True)


class Comes(Rules, unittest.TestCase):
    """The guarantees of [4]; what comes is found by the test's own DEEDS."""

    def test_more_brings_no_less(self):
        rng = random.Random(13)
        for book in oracle.random_books(13, 40, 4):
            more = with_thing(with_person(book, "pp"), "qq")
            members = members_of(more)
            for _ in range(3):
                more = with_hold(more, (rng.choice(members), rng.choice(oracle.RIGHTS), rng.choice(members)))
            self.assertTrue(lies_in(book, more))
            self.assertLessEqual(oracle.ever(book), oracle.ever(more))

    def test_other_names(self):
        for book in oracle.random_books(14, 30, 4):
            for old in members_of(book):
                want = oracle.with_other_name(oracle.ever(book), old, "mm")
                self.assertEqual(oracle.ever(renamed(book, old, "mm")), want)

    def test_other_rights(self):
        for book in oracle.random_books(15, 30, 4):
            if "own" in rights_in(book):
                people, things, holds = book
                swap = {"own": "lend"}
                new = (people, things, oracle.ascending((w, swap.get(r, r), x) for w, r, x in holds))
                want = {(who, swap.get(right, right), what) for who, right, what in oracle.ever(book)}
                self.assertEqual(oracle.ever(new), want)

    def test_turned_still(self):
        for book in oracle.random_books(16, 40, 4):
            for name in book[0]:
                self.assertLessEqual(oracle.ever(turned_still(book, (name,))), oracle.ever(book))
            self.assertEqual(oracle.ever(turned_still(book, book[0])), set(book[2]))

    def test_parts_that_hang_together(self):
        for one in oracle.random_books(17, 20, 4):
            other = (("pp",), ("qq",), (("pp", "take", "qq"), ("qq", "own", "pp")))
            both = beside(one, other)
            for part in (one, other):
                members = members_of(part)
                self.assert_same(part_of(both, members), part)
                self.assertEqual(oracle.ever(part), oracle.among(oracle.ever(both), members))


class Bounds(Rules, unittest.TestCase):
    def test_a_book_at_the_bounds(self):
        book = oracle.great_book()
        people, things, holds = book
        self.assertEqual([len(part) for part in book], [24, 24, 120])
        self.assertIs(is_book(book), True)
        self.assert_same(members_of(book), oracle.ascending(people + things))
        self.assert_same(turned_still(book, people), ((), oracle.ascending(people + things), holds))
        self.assert_same(without_hold(book, holds[60])[2], holds[:60] + holds[61:])
        self.assert_same(part_of(book, things), ((), things, tuple(h for h in holds if h[0][0] == h[2][0] == "t")))
        self.assert_same(renamed(book, people[5], "a")[0], ("a",) + people[:5] + people[6:])
        self.assertIs(lies_in(without_member(book, people[0]), book), True)
        self.assertIs(lies_in(book, without_member(book, people[0])), False)


HOLDS = (
    ("bob", "own", "box"), ("ann", "own", "own"), ("x", "own", "y"), ("ann", "own", "y"), ("ann", "OWN", "box"),
    ("box", "own", "box"), ("own", "take", "own"),
)
NAMES_TO_TRY = ("ann", "own", "cy", "", "Ann", "abcdefghi")
SETS = ((), ("ann",), ("ann", "box"), ("ann", "bob", "box", "own"), ("aa", "bob"), ("bob", "zz"))
ODD_FEW = (BOOK, EMPTY, ("bob", "own", "box"), ["bob", "own", "box"], (["bob"], "own"), 3, None, True, "box", ())

CALLS = (
    (is_book, "thing", [(thing,) for thing in ODD_FEW]),
    (is_hold, "book thing", [(book, thing) for book in (BOOK, EMPTY) for thing in ODD_FEW]),
    (members_of, "book", [(BOOK,), (OTHER,), (EMPTY,)]),
    (rights_in, "book", [(BOOK,), (OTHER,), (EMPTY,)]),
    (is_person, "book name", [(BOOK, name) for name in NAMES_TO_TRY]),
    (holds_of, "book name", [(BOOK, name) for name in NAMES_TO_TRY]),
    (held_to, "book name", [(BOOK, name) for name in NAMES_TO_TRY]),
    (with_person, "book name", [(BOOK, name) for name in NAMES_TO_TRY]),
    (with_thing, "book name", [(BOOK, name) for name in NAMES_TO_TRY]),
    (without_member, "book name", [(BOOK, name) for name in NAMES_TO_TRY]),
    (with_hold, "book hold", [(BOOK, hold) for hold in HOLDS]),
    (without_hold, "book hold", [(BOOK, hold) for hold in HOLDS]),
    (part_of, "book some", [(BOOK, some) for some in SETS]),
    (turned_still, "book some", [(BOOK, some) for some in SETS]),
    (turned_alive, "book some", [(BOOK, some) for some in SETS]),
    (renamed, "book old new", [(BOOK, old, new) for old in NAMES_TO_TRY for new in NAMES_TO_TRY]),
    (beside, "one other", [(BOOK, OTHER), (OTHER, BOOK), (BOOK, EMPTY), (BOOK, ((), ("ann",), ()))]),
    (common_members, "one other", [(BOOK, OTHER), (BOOK, EMPTY), (BOOK, ((), ("ann",), ()))]),
    (lies_in, "one other", [(BOOK, OTHER), (EMPTY, BOOK), (BOOK, BOOK), ((("bob",), ("box",), BOOK[2][1:2]), BOOK)]),
)


class General(Rules, unittest.TestCase):
    def test_rules_of_all_calls(self):
        self.check_calls(CALLS)

    def test_results_are_as_stated(self):
        for book in oracle.random_books(18, 30):
            for told in (turned_still(book, ()), part_of(book, members_of(book)), with_person(book, "pp")):
                self.assertTrue(oracle.book_ok(told), told)


if __name__ == "__main__":
    unittest.main()
