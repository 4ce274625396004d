"""[5], with [2] and [3]: DEEDS and rows of them."""

import random
import unittest

import oracle
from rules import ODD, Rules, near_misses
from touchrights.deeds import (
    behind, behind_without, doers, done_without, first_barred, first_with, is_deed, is_lean_row, is_row_for,
    is_row_of_deeds, lean_row, made_names, may_do, needed_deeds, new_holds, open_deeds, wanted_by,
)

BOOK = (("ann", "bob"), ("box",), (("ann", "take", "bob"), ("bob", "own", "box")))
EMPTY = ((), (), ())
NEST, LEND = ("make", "bob", "nest", "thing", ("hand", "take")), ("hand", "bob", "nest", "own", "box")
ROW = (
    NEST, ("take", "ann", "bob", "take", "nest"), LEND, ("make", "ann", "zoe", "person", ()),
    ("take", "ann", "nest", "own", "box"),
)
HOLD = ("ann", "own", "box")
DEEDS = (
    ("take", "ann", "bob", "own", "box"), ("hand", "ann", "bob", "own", "box"),
    ("make", "ann", "new", "person", ("hand", "own", "take")), ("make", "ann", "new", "thing", ()),
)


def cases(seed, many, length, sure):
    """Pairs of a BOOK and a row of DEEDS."""
    rng = random.Random(seed)
    books = oracle.random_books(seed, many, 4)
    return [(book, oracle.random_row(rng, book, rng.randint(0, length), sure)) for book in books]


def row_holds(book, deeds):
    """HOLDS to ask for: all that are there at some time, and some that are not."""
    told = oracle.run(book, deeds)[0]
    members = told[0] + told[1]
    strange = [("ann", "none", "box"), ("nobody", "own", "nobody")] + [(name, "take", name) for name in members]
    return list(told[2]) + [hold for hold in strange if hold not in told[2]]


class Things(Rules, unittest.TestCase):
    def test_is_deed(self):
        for thing in list(ODD) + [one for deed in DEEDS for one in near_misses(deed)] + list(DEEDS):
            self.assert_same(is_deed(thing), oracle.deed_ok(thing), thing)
        for deed in DEEDS:
            self.assertIs(is_deed(deed), True)

    def test_is_deed_tells_each_fault(self):
        faults = (
            ("give", "ann", "bob", "own", "box"), ("take", "ann", "bob", "own"), ("take", "ann", "bob", "own", "box", "a"),
            ("take", "ann", "bob", "own", ()), ("take", "ann", "bob", ("own",), "box"), ("take", "Ann", "bob", "own", "box"),
            ("take", "ann", "bobbybobs", "own", "box"), ("make", "ann", "b", "things", ()), ("make", "ann", "b", "thing", "own"),
            ("make", "ann", "b", "thing", ("take", "own")), ("make", "ann", "b", "thing", ("own", "own")),
            ("make", "ann", "", "thing", ()), ("make", "", "b", "thing", ()), ("make", "ann", "b", "thing", ["own"]),
            ("make", "ann", "b", "thing", ("Own",)), ("make", "ann", "b", "own", "box"), ["take", "ann", "bob", "own", "box"],
            ("make", "ann", "b", ("thing",), ()), ("hand", "ann", "bob", 3, "box"), ("take", "ann", True, "own", "box"),
            ("make", "ann", "b", "thing", ()) + ((),), (("take",), "ann", "bob", "own", "box"), ("make", "ann", "b", "thing"),
        )
        for thing in faults:
            self.assertIs(is_deed(thing), False, thing)

    def test_is_row_of_deeds(self):
        for thing in list(ODD) + list(near_misses(DEEDS)) + list(near_misses(())):
            self.assert_same(is_row_of_deeds(thing), oracle.row_ok(thing), thing)
        self.assertIs(is_row_of_deeds(()), True)
        self.assertIs(is_row_of_deeds(DEEDS * 500), True)
        self.assertIs(is_row_of_deeds(DEEDS * 500 + (None,)), False)
        self.assertIs(is_row_of_deeds(list(DEEDS)), False)
        self.assertIs(is_row_of_deeds(DEEDS[0]), False)


class One(Rules, unittest.TestCase):
    def test_may_do(self):
        rng = random.Random(21)
        seen = {True: 0, False: 0}
        for book in oracle.random_books(21, 150, 4):
            for _ in range(12):
                deed = oracle.random_deed(rng, book, book[0] + book[1] + ("new",))
                seen[oracle.allowed(book, deed)] += 1
                self.assert_same(may_do(book, deed), oracle.allowed(book, deed), (book, deed))
        self.assertGreater(min(list(seen.values())), 100)

    def test_each_condition(self):
        holds = (("ann", "hand", "bob"), ("ann", "own", "box"), ("ann", "take", "bob"), ("bob", "own", "box"))
        book = (("ann",), ("bob", "box"), holds)
        take, hand = ("take", "ann", "bob", "own", "box"), ("hand", "ann", "bob", "own", "box")
        self.assertIs(may_do(book, take), True)
        self.assertIs(may_do(book, hand), True)
        for deed in (take, hand):
            for hold in oracle.wants(deed):
                less = (book[0], book[1], tuple(other for other in holds if other != hold))
                self.assertIs(may_do(less, deed), False, (deed, hold))
            # A THING does nothing, whatever it holds.
            self.assertIs(may_do(oracle.still(book, ("ann",)), deed), False)

    def test_to_oneself(self):
        book = (("ann",), (), (("ann", "hand", "ann"), ("ann", "take", "ann")))
        for deed in (("take", "ann", "ann", "take", "ann"), ("hand", "ann", "ann", "hand", "ann")):
            self.assertIs(may_do(book, deed), True)
            self.assert_same(wanted_by(deed), ((deed[1], deed[0], deed[1]),))

    def test_may_make(self):
        for sort in ("person", "thing"):
            for rights in ((), ("hand", "own", "take")):
                self.assertIs(may_do(BOOK, ("make", "ann", "new", sort, rights)), True)
                for maker, name in (("box", "new"), ("cy", "new"), ("ann", "ann"), ("ann", "bob"), ("ann", "box")):
                    self.assertIs(may_do(BOOK, ("make", maker, name, sort, rights)), False)

    def test_strange_names_raise_nothing(self):
        for deed in (("take", "x", "y", "own", "z"), ("hand", "ann", "y", "own", "box"), ("make", "x", "y", "thing", ())):
            self.assertIs(may_do(BOOK, deed), False)
            self.assertIs(may_do(EMPTY, deed), False)
            self.assert_same(first_barred(BOOK, (deed,)), 0)
        self.assert_same(first_with(BOOK, ROW, ("x", "own", "y")), None)

    def test_open_deeds(self):
        for book in oracle.random_books(22, 150, 4) + oracle.small_books()[::5]:
            members = book[0] + book[1]
            rights = {hold[1] for hold in book[2]}
            all_deeds = [
                (word, person, near, right, what) for word in ("take", "hand") for person in members for near in members
                for right in rights for what in members
            ]
            want = [deed for deed in all_deeds if oracle.allowed(book, deed) and oracle.done(book, deed) != book]
            self.assert_same(open_deeds(book), oracle.ascending(want), book)
        self.assert_same(open_deeds(EMPTY), ())

    def test_wanted_by(self):
        rng = random.Random(23)
        for book in oracle.random_books(23, 80, 4):
            deed = oracle.random_deed(rng, book)
            self.assert_same(wanted_by(deed), oracle.ascending(oracle.wants(deed)))
        self.assert_same(wanted_by(("make", "ann", "b", "thing", ("take",))), ())
        self.assert_same(wanted_by(("take", "z", "a", "own", "c")), (("a", "own", "c"), ("z", "take", "a")))
        self.assert_same(wanted_by(("hand", "z", "a", "aaa", "c")), (("z", "aaa", "c"), ("z", "hand", "a")))


class Rows(Rules, unittest.TestCase):
    def test_rows_that_can_be_done(self):
        for book, deeds in cases(31, 80, 12, True):
            told = oracle.run(book, deeds)[0]
            self.assert_same(first_barred(book, deeds), None)
            self.assert_same(behind(book, deeds), told)
            self.assert_same(new_holds(book, deeds), oracle.ascending(set(told[2]) - set(book[2])))
            self.assertTrue(oracle.book_ok(behind(book, deeds)))

    def test_rows_that_can_not_be_done(self):
        many = 0
        for book, deeds in cases(32, 120, 8, False):
            number = oracle.run(book, deeds)[2]
            self.assert_same(first_barred(book, deeds), number)
            if number is not None:
                many += 1
                for function, args in (
                    (behind, ()), (new_holds, ()), (first_with, (HOLD,)), (done_without, ((),)), (behind_without, ((0,),)),
                    (needed_deeds, (("x", "own", "y"),)), (lean_row, (("x", "own", "y"),)),
                ):
                    self.assert_raises("Barred", {"number": number}, function, book, deeds, *args)
        self.assertGreater(many, 20)

    def test_barred_counts_from_the_first(self):
        self.assert_raises("Barred", {"number": 0}, behind, BOOK, (LEND, NEST, LEND))
        self.assert_raises("Barred", {"number": 2}, behind, BOOK, (NEST, LEND, NEST, NEST))
        self.assert_same(first_barred(BOOK, ()), None)
        self.assert_same(behind(BOOK, ()), BOOK)

    def test_a_made_person_does_deeds(self):
        deeds = (
            ("make", "ann", "kid", "person", ("hand", "take")), ("make", "kid", "toy", "thing", ("own",)),
            ("take", "ann", "kid", "own", "toy"), ("hand", "ann", "kid", "take", "bob"),
        )
        told = behind(BOOK, deeds)
        self.assert_same(told[:2], (("ann", "bob", "kid"), ("box", "toy")))
        self.assert_same(new_holds(BOOK, deeds), (
            ("ann", "hand", "kid"), ("ann", "own", "toy"), ("ann", "take", "kid"), ("kid", "own", "toy"),
            ("kid", "take", "bob"),
        ))
        self.assert_raises("Barred", {"number": 1}, behind, BOOK, (
            ("make", "ann", "kid", "thing", ("hand", "take")), ("make", "kid", "toy", "thing", ("own",)),
        ))

    def test_rights_called_like_sorts_and_words(self):
        book = (("make", "person"), ("hand", "thing"), oracle.ascending(
            [("make", "take", "thing"), ("person", "hand", "hand"), ("make", "hand", "thing")]
            + [(who, right, what) for who in ("make", "person", "thing") for right in ("make", "person", "thing")
               for what in ("hand", "make")]))
        for right in ("make", "person", "thing"):
            for what in ("hand", "make"):
                deeds = (
                    ("take", "make", "thing", right, what), ("hand", "person", "hand", right, what),
                    ("hand", "make", "thing", right, what), ("make", "person", "take", right, (right,)),
                )[:4 if right != "make" else 3]
                told, _, barred = oracle.run(book, deeds)
                self.assertIsNone(barred)
                self.assert_same(behind(book, deeds), told)
                self.assert_same(doers(deeds), ("make", "person"))
                self.assert_same(made_names(deeds), ("take",) if len(deeds) == 4 else ())
                self.assertIs(is_row_of_deeds(deeds), True)

    def test_first_with(self):
        for book, deeds in cases(33, 50, 10, True):
            for hold in row_holds(book, deeds):
                want = [k for k in range(len(deeds) + 1) if hold in oracle.run(book, deeds[:k])[0][2]]
                self.assert_same(first_with(book, deeds, hold), want[0] if want else None)

    def test_first_with_is_barred_ahead_and_behind(self):
        for deeds, number in (((LEND,), 0), ((NEST, NEST), 1), ((NEST, LEND, LEND, NEST), 3)):
            for hold in (("bob", "own", "box"), ("bob", "hand", "nest"), ("x", "own", "y")):
                self.assert_raises("Barred", {"number": number}, first_with, BOOK, deeds, hold)

    def test_doers_and_made_names(self):
        for _, deeds in cases(34, 40, 10, False):
            self.assert_same(doers(deeds), oracle.ascending(deed[1] for deed in deeds))
            self.assert_same(made_names(deeds), oracle.ascending(deed[2] for deed in deeds if deed[0] == "make"))
        self.assert_same(doers(()), ())
        self.assert_same(made_names((LEND,)), ())
        self.assert_same(made_names((NEST, NEST)), ("nest",))


class Without(Rules, unittest.TestCase):
    def test_done_and_behind_without(self):
        rng = random.Random(41)
        for book, deeds in cases(41, 80, 10, True):
            for _ in range(4):
                numbers = oracle.ascending(rng.sample(range(len(deeds)), rng.randint(0, len(deeds))))
                told, done, _ = oracle.run(book, deeds, numbers)
                self.assert_same(done_without(book, deeds, numbers), done)
                self.assert_same(behind_without(book, deeds, numbers), told)
        self.assert_same(done_without(BOOK, ROW, (0,)), (3,))
        self.assert_same(done_without(BOOK, ROW, ()), (0, 1, 2, 3, 4))
        self.assert_same(done_without(BOOK, (), ()), ())

    def test_no_number_ahead_of_barred(self):
        for function in (done_without, behind_without):
            for deeds in (ROW, (LEND,) * 5):
                for numbers, number in (((5,), 5), ((-1,), -1), ((0, 4, 5, 6), 5), ((-9, 99), -9), ((10 ** 9,), 10 ** 9)):
                    self.assert_raises("NoNumber", {"number": number}, function, BOOK, deeds, numbers)
            self.assert_raises("NoNumber", {"number": 0}, function, BOOK, (), (0,))
            self.assert_raises("Barred", {"number": 0}, function, BOOK, (LEND, NEST), (0,))

    def test_needed_deeds(self):
        for book, deeds in cases(42, 50, 9, True):
            for hold in row_holds(book, deeds):
                if hold not in oracle.run(book, deeds)[0][2]:
                    self.assert_raises("NoHold", {"hold": hold}, needed_deeds, book, deeds, hold)
                    self.assert_raises("NoHold", {"hold": hold}, needed_deeds, book, deeds, list(hold))
                    continue
                want = [k for k in range(len(deeds)) if hold not in oracle.run(book, deeds, (k,))[0][2]]
                self.assert_same(needed_deeds(book, deeds, hold), tuple(want))

    def test_lean_row(self):
        shorter = 0
        for book, deeds in cases(43, 50, 10, True):
            for hold in row_holds(book, deeds):
                if hold not in oracle.run(book, deeds)[0][2]:
                    self.assert_raises("NoHold", {"hold": hold}, lean_row, book, deeds, hold)
                    self.assert_raises("NoHold", {"hold": hold}, lean_row, book, deeds, list(hold))
                    continue
                out = ()
                for number in range(len(deeds)):
                    if hold in oracle.run(book, deeds, out + (number,))[0][2]:
                        out += (number,)
                want = tuple(deeds[k] for k in oracle.run(book, deeds, out)[1])
                shorter += 0 < len(want) < len(deeds)
                self.assert_same(lean_row(book, deeds, hold), want)
                self.assertIs(is_lean_row(book, hold, want), True)
        self.assertGreater(shorter, 100)

    def test_lean_row_leaves_out_the_first_of_two_ways(self):
        book = (("ann",), ("b", "c", "d"), (
            ("ann", "take", "b"), ("ann", "take", "c"), ("b", "own", "d"), ("c", "own", "d"),
        ))
        by_b, by_c = ("take", "ann", "b", "own", "d"), ("take", "ann", "c", "own", "d")
        hold = ("ann", "own", "d")
        self.assert_same(lean_row(book, (by_b, by_c), hold), (by_c,))
        self.assert_same(lean_row(book, (by_c, by_b), hold), (by_b,))
        self.assert_same(needed_deeds(book, (by_b, by_c), hold), ())
        self.assertIs(is_lean_row(book, hold, (by_b, by_c)), False)
        self.assertIs(is_lean_row(book, hold, (by_b,)), True)

    def test_a_hold_that_is_there_at_first_needs_nothing(self):
        hold = ("bob", "own", "box")
        self.assert_same(needed_deeds(BOOK, ROW, hold), ())
        self.assert_same(lean_row(BOOK, ROW, hold), ())
        self.assert_same(first_with(BOOK, ROW, hold), 0)
        self.assertIs(is_lean_row(BOOK, hold, ()), True)
        self.assertIs(is_lean_row(BOOK, hold, (NEST,)), False)
        self.assertIs(is_row_for(BOOK, hold, (NEST,)), True)

    def test_barred_ahead_of_no_hold(self):
        for function in (needed_deeds, lean_row):
            self.assert_raises("Barred", {"number": 1}, function, BOOK, (NEST, NEST), ("x", "own", "y"))
            self.assert_raises("NoHold", {"hold": ("x", "own", "y")}, function, BOOK, (NEST, LEND), ("x", "own", "y"))
            self.assert_raises("NoHold", {"hold": HOLD}, function, BOOK, (), HOLD)


class Judged(Rules, unittest.TestCase):
    """is_row_for, is_lean_row."""

    def judge(self, book, hold, thing):
        fits = oracle.row_ok(thing) and oracle.brings(book, thing, hold)
        lean = fits and all(hold not in oracle.run(book, thing, (k,))[0][2] for k in range(len(thing)))
        self.assert_same(is_row_for(book, hold, thing), fits, (book, hold, thing))
        self.assert_same(is_lean_row(book, hold, thing), lean, (book, hold, thing))
        return lean

    def test_values_of_all_kinds(self):
        for hold in (HOLD, ("bob", "own", "box"), ("x", "own", "y")):
            for thing in list(ODD) + list(near_misses(ROW)) + list(near_misses(ROW[:3] + ROW[4:])):
                self.judge(BOOK, hold, thing)

    def test_rows(self):
        lean = 0
        for book, deeds in cases(44, 40, 6, True) + cases(45, 40, 5, False):
            for hold in row_holds(book, deeds):
                lean += self.judge(book, hold, deeds)
                self.judge(book, hold, deeds[:-1])
                self.judge(book, hold, deeds[1:])
        self.assertGreater(lean, 40)

    def test_a_maker_is_needed(self):
        deeds = (("make", "ann", "kid", "person", ()), ("make", "kid", "toy", "thing", ("own",)))
        self.assertTrue(self.judge(BOOK, ("kid", "own", "toy"), deeds))
        self.assertFalse(self.judge(BOOK, ("kid", "own", "toy"), deeds + (NEST,)))

    def test_a_deed_that_changes_nothing_is_not_needed(self):
        take = ("take", "ann", "bob", "own", "box")
        self.assertFalse(self.judge(BOOK, HOLD, (take, take)))
        self.assertTrue(self.judge(BOOK, HOLD, (take,)))

    def test_rows_however_long(self):
        names = ["n" + one + two for one in "abcdefghij" for two in "abcdefghijklmnopqrst"]
        makes = tuple(("make", "ann", name, "thing", ("hand", "take")) for name in names)
        steps = tuple(("hand", "ann", near, "take", goal) for near, goal in zip(names, names[1:]))
        row = makes + steps
        hold = (names[-2], "take", names[-1])
        self.assertIs(is_row_for(BOOK, hold, row), True)
        self.assertIs(is_lean_row(BOOK, hold, row), False)
        kid = tuple(("make", one, two, "person", ()) for one, two in zip(["ann"] + names, names))
        last = ("make", names[-1], "toy", "thing", ("own",))
        self.assertIs(is_lean_row(BOOK, (names[-1], "own", "toy"), kid + (last,)), True)
        self.assertIs(is_lean_row(BOOK, (names[-1], "own", "toy"), kid + (last, last)), False)
        self.assertIs(is_row_for(BOOK, (names[-1], "own", "toy"), kid[1:] + (last,)), False)


class Guarantees(Rules, unittest.TestCase):
    def test_more_lets_the_same_deeds_be_done(self):
        rng = random.Random(51)
        for book in oracle.random_books(51, 80, 4):
            more = oracle.side_by_side(book, (("pp",), ("qq",), (("pp", "own", "qq"), ("pp", "take", "pp"))))
            for _ in range(8):
                deed = oracle.random_deed(rng, book, ("n", "pp", "qq"))
                if may_do(book, deed):
                    self.assertEqual(may_do(more, deed), not (deed[0] == "make" and deed[2] in ("pp", "qq")))

    def test_rows_are_woven(self):
        rng = random.Random(52)
        for book in oracle.random_books(52, 60, 4):
            one = oracle.random_row(rng, book, 5, True, ("n", "nn"))
            two = oracle.random_row(rng, book, 5, True, ("m", "mm"))
            ends = []
            for _ in range(3):
                left = [list(one), list(two)]
                row = []
                while left[0] or left[1]:
                    part = rng.choice([part for part in left if part])
                    row.append(part.pop(0))
                self.assert_same(first_barred(book, tuple(row)), None)
                ends.append(behind(book, tuple(row)))
            self.assertEqual(len(set(ends)), 1)
            for alone in (behind(book, one), behind(book, two)):
                for place in range(3):
                    self.assertLessEqual(set(alone[place]), set(ends[0][place]))

    def test_less_brings_no_more(self):
        rng = random.Random(53)
        for book, deeds in cases(53, 60, 8, True):
            numbers = oracle.ascending(rng.sample(range(len(deeds)), rng.randint(0, len(deeds))))
            self.assertLessEqual(set(behind_without(book, deeds, numbers)[2]), set(behind(book, deeds)[2]))

    def test_of_a_lean_row_no_several_can_be_left_out(self):
        rng = random.Random(54)
        for book, deeds in cases(54, 60, 10, True):
            for hold in row_holds(book, deeds):
                if hold in behind(book, deeds)[2]:
                    lean = lean_row(book, deeds, hold)
                    for _ in range(5):
                        numbers = oracle.ascending(rng.sample(range(len(lean)), rng.randint(min(1, len(lean)), len(lean))))
                        if numbers:
                            self.assertNotIn(hold, behind_without(book, lean, numbers)[2])


class Bounds(Rules, unittest.TestCase):
    def test_rows_of_sixty(self):
        people, things, _ = oracle.great_book()
        holds = [(person, "take", thing) for person, thing in zip(people, things)]
        holds += [(one, "take", two) for one, two in zip(things, things[1:])]
        holds += [(thing, "own", other) for other in people[:4] for thing in things][:120 - len(holds)]
        book = (people, things, oracle.ascending(holds))
        self.assertEqual([len(part) for part in book], [24, 24, 120])
        rng = random.Random(61)
        told, deeds = book, ()
        while len(deeds) < 60:
            deeds += (rng.choice(open_deeds(told)),)
            told = oracle.run(told, deeds[-1:])[0]
        self.assert_same(first_barred(book, deeds), None)
        self.assert_same(behind(book, deeds), told)
        self.assert_same(len(new_holds(book, deeds)), 60)
        self.assert_same(done_without(book, deeds, tuple(range(60))), ())
        self.assert_same(behind_without(book, deeds, tuple(range(60))), book)
        for hold in (oracle.gives(deeds[59]).pop(), oracle.gives(deeds[40]).pop()):
            want = tuple(k for k in range(60) if hold not in oracle.run(book, deeds, (k,))[0][2])
            self.assert_same(needed_deeds(book, deeds, hold), want)
            self.assertIs(is_lean_row(book, hold, lean_row(book, deeds, hold)), True)
            self.assertIs(is_lean_row(book, hold, deeds), False)
            self.assert_same(first_with(book, deeds, hold), max(want) + 1)

    def test_open_deeds_of_a_book_at_the_bounds(self):
        book = oracle.great_book()
        want = set()
        for who, right, near in book[2]:
            if who in book[0] and right == "take":
                want |= {("take", who, near) + hold[1:] for hold in book[2] if hold[0] == near}
            if who in book[0] and right == "hand":
                want |= {("hand", who, near) + hold[1:] for hold in book[2] if hold[0] == who}
        want = [deed for deed in want if not oracle.gives(deed) <= set(book[2])]
        self.assert_same(open_deeds(book), oracle.ascending(want))


ODD_FEW = (3, None, True, "box", (), [], ROW, list(ROW), (NEST, NEST), DEEDS[0], ("make",), ((),))
SOME_DEEDS = DEEDS + (NEST, LEND, ("take", "x", "y", "own", "z"))
BAD_ROW = (NEST, NEST)
HOLDS = (HOLD, ("bob", "own", "box"), ("x", "own", "y"), ("nest", "own", "box"))

CALLS = (
    (is_deed, "thing", [(thing,) for thing in ODD_FEW + DEEDS]),
    (is_row_of_deeds, "thing", [(thing,) for thing in ODD_FEW]),
    (may_do, "book deed", [(book, deed) for book in (BOOK, EMPTY) for deed in SOME_DEEDS]),
    (open_deeds, "book", [(BOOK,), (EMPTY,)]),
    (wanted_by, "deed", [(deed,) for deed in SOME_DEEDS]),
    (first_barred, "book deeds", [(BOOK, row) for row in (ROW, BAD_ROW, ())]),
    (behind, "book deeds", [(BOOK, row) for row in (ROW, BAD_ROW, ())]),
    (new_holds, "book deeds", [(BOOK, row) for row in (ROW, BAD_ROW, ())]),
    (first_with, "book deeds hold", [(BOOK, row, hold) for row in (ROW, BAD_ROW) for hold in HOLDS]),
    (doers, "deeds", [(ROW,), (BAD_ROW,), ((),)]),
    (made_names, "deeds", [(ROW,), (BAD_ROW,), ((),)]),
    (done_without, "book deeds numbers", [
        (BOOK, row, numbers) for row in (ROW, BAD_ROW) for numbers in ((), (0,), (1, 3), (0, 9), (-1, 7))
    ]),
    (behind_without, "book deeds numbers", [
        (BOOK, row, numbers) for row in (ROW, BAD_ROW) for numbers in ((), (0,), (1, 3), (0, 9), (-1, 7))
    ]),
    (needed_deeds, "book deeds hold", [(BOOK, row, hold) for row in (ROW, BAD_ROW) for hold in HOLDS]),
    (lean_row, "book deeds hold", [(BOOK, row, hold) for row in (ROW, BAD_ROW) for hold in HOLDS]),
    (is_lean_row, "book hold thing", [(BOOK, hold, thing) for hold in HOLDS for thing in ODD_FEW]),
    (is_row_for, "book hold thing", [(BOOK, hold, thing) for hold in HOLDS for thing in ODD_FEW]),
)


class General(Rules, unittest.TestCase):
    def test_rules_of_all_calls(self):
        self.check_calls(CALLS)


if __name__ == "__main__":
    unittest.main()
