"""[17], with [2] and [3]: CLAIMS, and PAPERS against them."""

import random
import unittest

import claims
import houses
import oracle
import ruled
import towns
from rules import ODD, Rules, near_misses
from touchrights.judge import (
    breaking_holds, first_fallen, is_claim, is_paper_against, mending_holds, paper_against, stands,
)

BOOK = (("ann", "bob"), ("box",), (("ann", "take", "box"), ("bob", "hand", "box"), ("bob", "own", "box")))
TIE = ("ann", "own", "box")
ROW = (("hand", "bob", "box", "own", "box"), ("take", "ann", "box", "own", "box"))
BOXES, FLOW = ((), ("box", "car")), (("flows", "box", "car"),)
NEAR, FAR = (("ann",), ("box",)), (("cy",), ("box",))
HANDS = ruled.closure(NEAR, (("home", "ann", "hand", "box"),))
TAKES = ruled.closure(FAR, (("home", "cy", "take", "box"),))
CITY = ((NEAR, HANDS), (FAR, TAKES))
LESS = ((NEAR, HANDS), (FAR, ruled.closure(FAR, ())))
CARRIER = ((("kay",), ("box", "car"), (("kay", "hand", "car"), ("kay", "take", "box"))), ("box", "car"))
OWNER = ((("kay",), ("box", "car"), (("kay", "own", "box"),)), ("box", "car"))
UNBARS = ("cy", "open", "box")
CLAIMS = (
    ("never", BOOK, TIE),
    ("no more", OWNER, CARRIER),
    ("follows", BOXES, FLOW, ("takes", "car", "box")),
    ("closed", BOXES, FLOW),
    ("lean", BOXES, (("both", "box", "box"), ("flows", "box", "car"))),
    ("barred", CITY, ("cy", "hand", "box")),
    ("cleared", CITY, (UNBARS,), (0,)),
    ("safe", CITY, (("ann", "open", "box"),), (UNBARS, ("cy", "see", "ann"))),
    ("surely", LESS, CITY, ("cy", "hand", "box")),
)
STANDING = (
    ("never", BOOK, ("ann", "see", "box")),
    ("no more", OWNER, CARRIER),
    ("follows", BOXES, FLOW, ("takes", "car", "box")),
    ("closed", BOXES, ()),
    ("lean", BOXES, FLOW),
    ("barred", CITY, UNBARS),
    ("cleared", CITY, (("cy", "see", "ann"),), (1,)),
    ("safe", CITY, (("ann", "open", "box"),), (("cy", "see", "ann"),)),
    ("surely", CITY, CITY, ("cy", "hand", "box")),
)
FALLEN = tuple(claim for claim in CLAIMS if claim not in STANDING) + (
    ("no more", CARRIER, OWNER), ("follows", BOXES, FLOW, ("both", "car", "car")))


class Forms(Rules, unittest.TestCase):
    def test_the_claims_here(self):
        for claim in CLAIMS + STANDING + FALLEN:
            self.assertTrue(claims.claim_ok(claim), claim)
            self.assertIs(is_claim(claim), True, claim)
        for word in claims.WORDS:
            for claim in claims.drawn(word, 1701, 12):
                self.assertTrue(claims.claim_ok(claim), claim)
                self.assertIs(is_claim(claim), True, claim)

    def check_near(self, claim):
        good = bad = 0
        for thing in list(near_misses(claim)) + list(ODD):
            want = claims.claim_ok(thing)
            good, bad = good + want, bad + (not want)
            self.assert_same(is_claim(thing), want, thing)
        self.assertGreater(bad, 500)
        return good

    def test_near_claims_of_books_and_houses(self):
        book = (("ann",), ("box",), (("ann", "take", "box"),))
        self.assertGreater(self.check_near(("never", book, ("ann", "own", "box"))), 10)
        self.check_near(("no more", (book, ("box",)), (((), ("box",), ()), ("box",))))

    def test_near_claims_of_lines(self):
        edge, lines = (("ann",), ("box",)), (("both", "ann", "box"), ("has", "box", "own", "ann"))
        self.assertGreater(self.check_near(("follows", edge, lines, ("flows", "ann", "box"))), 10)
        self.assertGreater(self.check_near(("closed", edge, lines)), 5)
        self.assertGreater(self.check_near(("lean", edge, lines)), 5)

    def test_near_claims_of_cities(self):
        edge = (("ann",), ("box",))
        city = ((edge, ruled.closure(edge, ())), (((), ("box",)), ()))
        more = ((edge, ruled.closure(edge, (("takes", "box", "ann"),))), (((), ("box",)), ()))
        holds = (("ann", "own", "box"), ("box", "take", "box"))
        self.assertGreater(self.check_near(("barred", city, holds[0])), 10)
        self.assertGreater(self.check_near(("cleared", city, holds, (0, 1))), 10)
        self.assertGreater(self.check_near(("safe", city, holds, holds[1:])), 10)
        self.assertGreater(self.check_near(("surely", city, more, holds[1])), 5)

    def test_what_functions_of_the_point_refuse(self):
        for thing in (
            ("never", BOOK, ("cy", "own", "box")), ("never", BOOK, ("ann", "own", "cy")), ("never", BOOK, ("ann", "Own", "box")),
            ("never", BOOK), ("never", BOOK, TIE, TIE), ("ever", BOOK, TIE), ("Never", BOOK, TIE), ("nomore", OWNER, CARRIER),
            ("no more", OWNER, (CARRIER[0], ("box",))), ("no more", BOOK, BOOK),
            ("follows", BOXES, FLOW, ("takes", "ink", "box")), ("follows", BOXES, (("flows", "box", "ink"),), ("hands", "box", "box")),
            ("follows", BOXES, FLOW, ("takes", "box", "box")), ("closed", BOXES, (("takes", "box", "box"),)),
            ("closed", BOXES, FLOW * 2), ("lean", BOXES, (("takes", "car", "box"), ("flows", "box", "car"))),
            ("barred", ((NEAR, HANDS[1:]),), ("ann", "own", "box")), ("barred", CITY, ("dan", "own", "box")),
            ("barred", ((NEAR, HANDS), ((("box",), ()), ruled.closure((("box",), ()), ()))), ("ann", "own", "box")),
            ("cleared", CITY, (UNBARS,), (2,)), ("cleared", CITY, (UNBARS,), (-1,)), ("cleared", CITY, (UNBARS,), (True,)),
            ("cleared", CITY, (UNBARS,), (1, 0)), ("cleared", CITY, (UNBARS, UNBARS), ()), ("cleared", CITY, UNBARS, ()),
            ("cleared", CITY, (("dan", "own", "box"),), ()), ("cleared", CITY, (UNBARS,), (0, 0)),
            ("safe", CITY, (("dan", "own", "box"),), ()), ("safe", CITY, (), (("dan", "own", "box"),)),
            ("surely", CITY, LESS, UNBARS), ("surely", CITY, CITY[:1], UNBARS), ("surely", CITY, CITY, ("dan", "own", "box")),
            ("surely", CITY[::-1], CITY, UNBARS), (), ("never",), None, 7, "never", list(CLAIMS[0]),
        ):
            self.assertFalse(claims.claim_ok(thing), thing)
            self.assertIs(is_claim(thing), False, thing)
        for thing in (("cleared", (), (), ()), ("safe", (), (), ()), ("closed", ((), ()), ()), ("lean", ((), ()), ())):
            self.assertIs(is_claim(thing), True, thing)
        self.assertIs(is_claim(("barred", (), ("a", "own", "a"))), False)

    def test_bounds_do_not_matter(self):
        names = tuple(sorted("n" + sign + other for sign in "abcdefgh" for other in "abcdefgh"))
        book = (names[:30], names[30:], tuple((name, "own", other) for name in names[:20] for other in names[:10]))
        self.assertIs(is_claim(("never", book, (names[0], "own", names[1]))), True)
        self.assertIs(is_claim(("no more", (book, names[:9]), (book, names[:9]))), True)
        edge = ((), names[:6])
        lines = houses.all_lines(edge, ("a", "b", "c", "d", "hand", "take"))
        for word in ("closed", "lean"):
            self.assertIs(is_claim((word, edge, lines)), True)
        self.assertIs(is_claim(("follows", edge, lines, ("both", names[0], names[1]))), True)
        city = tuple(((), (name,)) for name in names[:9])
        city = tuple((edge, ()) for edge in city)
        holds = tuple((names[0], "a" + sign, names[1]) for sign in "abcdefghij")
        self.assertIs(is_claim(("cleared", city, holds, tuple(range(9)))), True)
        self.assertIs(is_claim(("safe", city, holds, holds)), True)
        self.assertIs(is_claim(("surely", city, city, holds[3])), True)


class Standing(Rules, unittest.TestCase):
    def check(self, claim):
        want = claims.stands(claim)
        self.assert_same(stands(claim), want, claim)
        paper = paper_against(claim)
        if want:
            self.assert_same(paper, None, claim)
            return True
        self.assertTrue(claims.paper_ok(claim, paper), (claim, paper))
        self.assertIs(is_paper_against(claim, paper), True, (claim, paper))
        return False

    def check_word(self, word, many, least=15):
        seen = {True: 0, False: 0}
        for claim in claims.drawn(word, 1711, many):
            seen[self.check(claim)] += 1
        self.assertGreater(min(seen.values()), least, (word, seen))

    def test_never(self):
        self.check_word("never", 120)

    def test_no_more(self):
        self.check_word("no more", 120)

    def test_follows(self):
        self.check_word("follows", 100)

    def test_closed(self):
        self.check_word("closed", 120)

    def test_lean(self):
        self.check_word("lean", 120)

    def test_barred(self):
        self.check_word("barred", 80)

    def test_cleared(self):
        self.check_word("cleared", 100)

    def test_safe(self):
        self.check_word("safe", 120)

    def test_surely(self):
        self.check_word("surely", 100)

    def test_those_here(self):
        for claim in STANDING:
            self.assertIs(self.check(claim), True, claim)
        for claim in FALLEN:
            self.assertIs(self.check(claim), False, claim)
        self.assertEqual({claim[0] for claim in FALLEN}, set(claims.WORDS))
        self.assertEqual({claim[0] for claim in STANDING}, set(claims.WORDS))

    def test_a_hold_that_is_there_at_first(self):
        claim = ("never", BOOK, BOOK[2][0])
        self.assertIs(stands(claim), False)
        self.assertIs(is_paper_against(claim, ()), True)

    def test_what_does_not_stand_does_not_with_more(self):
        rng = random.Random(1712)
        for word in ("never", "barred", "safe"):
            fallen = [claim for claim in claims.drawn(word, 1713, 60) if not claims.stands(claim)]
            self.assertGreater(len(fallen), 10)
            for claim in fallen:
                self.assertIs(stands(self.with_more(rng, claim)), False, claim)

    def with_more(self, rng, claim):
        if claim[0] == "never":
            (people, things, holds), members = claim[1], claim[1][0] + claim[1][1]
            more = (rng.choice(members), rng.choice(("hand", "own", "take")), rng.choice(members))
            return ("never", (people, things, oracle.ascending(holds + (more,))), claim[2])
        plots = []
        for edge, lines in claim[1]:
            more = ruled.some_lines(rng, edge, 1)
            plots.append((edge, ruled.closure(edge, oracle.ascending(lines + more))))
        return (claim[0], tuple(plots)) + claim[2:]


class Papers(Rules, unittest.TestCase):
    def things_for(self, rng, word, claim, lot):
        """PAPERS against this and against other CLAIMS of this word, and values near them."""
        things = [paper_against(claim)] + [paper_against(other) for other in rng.sample(lot, 3)]
        if word == "never":
            things += [oracle.random_row(rng, claim[1], 3, True), ()]
        if word in ("closed", "lean", "surely", "follows"):
            edge = towns.edge_of_city(claim[1]) if word == "surely" else claim[1]
            lines = houses.all_lines(edge, claims.RIGHTS)
            things += rng.sample(lines, min(3, len(lines)))
            things.append(tuple(sorted(towns.followed(edge, ruled.some_lines(rng, edge, 3)))))
        if word == "safe":
            things += list(claim[3]) + list(claim[2])
        return things

    def test_by_the_tests(self):
        for place, word in enumerate(claims.WORDS):
            rng = random.Random(1721 + place)
            lot = claims.drawn(word, 1722, 50)
            seen = {True: 0, False: 0}
            for claim in lot:
                for thing in self.things_for(rng, word, claim, lot):
                    want = claims.paper_ok(claim, thing)
                    seen[want] += 1
                    self.assert_same(is_paper_against(claim, thing), want, (claim, thing))
            self.assertGreater(min(seen.values()), 12, (word, seen))

    def test_values_of_all_kinds(self):
        for claim in CLAIMS + STANDING + FALLEN:
            for thing in ODD:
                self.assert_same(is_paper_against(claim, thing), claims.paper_ok(claim, thing), (claim, thing))

    def test_values_near_papers(self):
        for claim in FALLEN:
            paper = paper_against(claim)
            things = list(near_misses(paper))
            if claim[0] in ("barred", "cleared", "follows", "no more", "surely"):
                things = random.Random(1723).sample(things, min(len(things), 700))
            for thing in things:
                self.assert_same(is_paper_against(claim, thing), claims.paper_ok(claim, thing), (claim, thing))

    def test_none_against_what_stands(self):
        papers = [paper_against(claim) for claim in FALLEN]
        for claim in STANDING:
            for paper in papers + [None, ROW, FLOW, CARRIER, (CARRIER, OWNER)]:
                self.assertIs(is_paper_against(claim, paper), False, (claim, paper))

    def test_papers_of_whatever_size(self):
        row = ROW + (("make", "bob", "zed", "thing", ()),) + ROW * 400
        self.assertIs(is_paper_against(("never", BOOK, TIE), row), True)
        many = tuple(sorted("n" + sign + other for sign in "abcdefghij" for other in "abcdefghij"))
        house = ((many, ("box", "car"), tuple((name, "own", name) for name in many)), ("box", "car"))
        self.assertIs(is_paper_against(("follows", BOXES, (), FLOW[0]), house), True)
        self.assertIs(is_paper_against(("no more", CARRIER, OWNER), ((many, ("box", "car", "toy"), (
            ("box", "mark", "toy"),)), ("car", "mark", "toy"))), True)

    def test_first_fallen(self):
        rng = random.Random(1731)
        lot = [claim for word in claims.WORDS for claim in claims.drawn(word, 1732, 6)]
        places = set()
        for _ in range(60):
            some = tuple(rng.sample(lot, rng.randint(0, 5)))
            if rng.random() < 0.5:
                some = tuple(claim for claim in some if claims.stands(claim)) + some[-1:]
            fallen = [place for place, claim in enumerate(some) if not claims.stands(claim)]
            got = first_fallen(some)
            places.add(fallen[0] if fallen else None)
            if not fallen:
                self.assert_same(got, None, some)
                continue
            self.assertEqual((type(got), len(got), got[0]), (tuple, 2, fallen[0]))
            self.assertTrue(claims.paper_ok(some[fallen[0]], got[1]), (some, got))
        self.assertLessEqual({None, 0, 1, 2}, places)
        self.assert_same(first_fallen(()), None)
        self.assert_same(first_fallen((("closed", BOXES, ()), ("never", BOOK, BOOK[2][0]))), (1, ()))


def without(book, hold):
    return (book[0], book[1], tuple(other for other in book[2] if other != hold))


class Mending(Rules, unittest.TestCase):
    def test_mending_never(self):
        sizes = set()
        for claim in claims.drawn("never", 1741, 150):
            _, book, hold = claim
            want = tuple(less for less in book[2] if claims.stands(("never", without(book, less), hold)))
            want = () if claims.stands(claim) else want
            sizes.add(min(len(want), 3))
            self.assert_same(mending_holds(claim), want, claim)
        self.assertEqual(sizes, {0, 1, 2, 3})

    def test_mending_no_more(self):
        sizes = set()
        for claim in claims.drawn("no more", 1742, 120):
            _, (book, border), other = claim
            want = tuple(less for less in book[2] if claims.stands(("no more", (without(book, less), border), other)))
            want = () if claims.stands(claim) else want
            sizes.add(min(len(want), 2))
            self.assert_same(mending_holds(claim), want, claim)
        self.assertEqual(sizes, {0, 1, 2})

    def test_breaking(self):
        sizes = set()
        for claim in claims.drawn("never", 1743, 70):
            _, book, hold = claim
            members, want = oracle.ascending(book[0] + book[1]), []
            for new in [(who, right, what) for who in members for right in ("hand", "take") for what in members]:
                more = (book[0], book[1], oracle.ascending(book[2] + (new,)))
                if new not in book[2] and not claims.stands(("never", more, hold)):
                    want.append(new)
            want = tuple(want) if claims.stands(claim) else ()
            sizes.add(min(len(want), 3))
            self.assert_same(breaking_holds(claim), want, claim)
        self.assertLessEqual({0, 1, 3}, sizes)

    def test_the_hold_itself(self):
        book = (("ann",), ("box",), ())
        self.assertIn(("box", "take", "ann"), breaking_holds(("never", book, ("box", "take", "ann"))))
        self.assert_same(mending_holds(("never", BOOK, BOOK[2][2])), (BOOK[2][2],))
        self.assert_same(breaking_holds(("never", BOOK, TIE)), ())
        self.assert_same(mending_holds(("never", BOOK, ("ann", "see", "box"))), ())


class Errors(Rules, unittest.TestCase):
    BAD = (
        None, 7, True, "never", (), [], ("never",), ("ever", BOOK, TIE), ("never", BOOK, ("cy", "own", "box")),
        ("never", BOOK, TIE, ()), ("cleared", CITY, (UNBARS,), (2,)), ("closed", BOXES, (("flows", "box", "ink"),)),
        ("barred", CITY, ("cy", "own", "dan")), (("never",), BOOK, TIE), ("surely", CITY, LESS, UNBARS),
    )

    def test_no_claim(self):
        for claim in self.BAD:
            for function in (stands, paper_against, mending_holds, breaking_holds):
                self.assert_raises("Unfit", {}, function, claim)
            for thing in (None, ROW, 3):
                self.assert_raises("Unfit", {}, is_paper_against, claim, thing)

    def test_any_of_claims(self):
        for claim in self.BAD:
            for row in ((claim,), STANDING + (claim,), (claim,) + FALLEN, FALLEN[:1] + (claim,)):
                self.assert_raises("Unfit", {}, first_fallen, row)

    def test_other_claims_are_neither_mended_nor_broken(self):
        for claim in CLAIMS + STANDING + FALLEN:
            if claim[0] not in ("never", "no more"):
                self.assert_raises("Unfit", {}, mending_holds, claim)
            if claim[0] != "never":
                self.assert_raises("Unfit", {}, breaking_holds, claim)


class Bounds(Rules, unittest.TestCase):
    def check(self, claim):
        want = claims.stands(claim)
        paper = paper_against(claim)
        self.assert_same((is_claim(claim), stands(claim), paper is None), (True, want, want), claim[0])
        if not want:
            self.assertTrue(claims.paper_ok(claim, paper), claim[0])
            self.assertIs(is_paper_against(claim, paper), True)

    def test_a_great_book(self):
        book = oracle.great_book()
        for hold in ((book[0][23], "own", book[1][23]), (book[0][0], "own", book[0][1])):
            self.check(("never", book, hold))
        claim = ("never", book, (book[0][23], "own", book[1][23]))
        mending = mending_holds(claim)
        self.assertGreater(len(mending), 20)
        for less in book[2]:
            want = oracle.ascending(oracle.ever(without(book, less)) & {claim[2]}) == ()
            if less[1] != "see":
                self.assertEqual(less in mending, want, less)

    def test_houses(self):
        for seed in (1751, 1752):
            one = houses.house_at_bounds(seed)
            (people, things, holds), border = one
            self.check(("no more", one, ((people, things, holds[::2]), border)))
            self.check(("no more", ((people, things, holds[::2]), border), one))

    def test_lines(self):
        rng = random.Random(1753)
        edge = (("a", "c"), ("b", "d"))
        for many in (10, 20):
            lines = ruled.some_lines(rng, edge, many, ("hand", "own", "see", "take", "use"))
            self.check(("lean", edge, lines))
            self.check(("closed", edge, lines))
            self.check(("follows", edge, lines[:10], rng.choice(houses.all_lines(edge, ("own", "use")))))

    def test_cities(self):
        rng = random.Random(1754)
        rights = ("hand", "open", "own", "see", "take")
        for _ in range(2):
            city = towns.random_city(rng, 4, 4, 2, ("a", "c"), ("m", "n", "o"), rights)
            lots = towns.all_holds(towns.edge_of_city(city), rights)
            holds = oracle.ascending(rng.sample(lots, 6))
            for hold in holds[:3]:
                self.check(("barred", city, hold))
                self.check(("surely", city, towns.freed(city, (0, 2), rights), hold))
            self.check(("safe", city, holds, oracle.ascending(rng.sample(lots, 6))))
            self.check(("cleared", city, holds[:1], ()))


ODD_FEW = (None, (), ROW, [], FLOW[0], CARRIER, list(ROW), 3)
CALLS = (
    (is_claim, "thing", [(claim,) for claim in CLAIMS] + [(list(claim),) for claim in CLAIMS] + [(7,), ((),)]),
    (stands, "claim", [(claim,) for claim in CLAIMS + STANDING + Errors.BAD]),
    (paper_against, "claim", [(claim,) for claim in CLAIMS + STANDING + Errors.BAD]),
    (is_paper_against, "claim thing", [(claim, thing) for claim in CLAIMS + Errors.BAD[::4] for thing in ODD_FEW]),
    (first_fallen, "claims", [(CLAIMS,), (STANDING,), (STANDING + FALLEN[3:],), ((),), (STANDING[:2] + Errors.BAD[:1],)]),
    (mending_holds, "claim", [(claim,) for claim in FALLEN + STANDING + Errors.BAD]),
    (breaking_holds, "claim", [(claim,) for claim in CLAIMS + STANDING + Errors.BAD]),
)


class General(Rules, unittest.TestCase):
    def test_rules_of_all_calls(self):
        self.check_calls(CALLS)


if __name__ == "__main__":
    unittest.main()
