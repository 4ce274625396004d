"""[14], with [2] and [3]: bands, what they reach, and who may read what."""

import random
import unittest

import houses
import oracle
import ruled
import towns
from rules import ODD, Rules, near_misses
from touchrights.secrets import (
    acting, greatest_shut, hindered_by, is_opening_row, least_openers, may_read, opening_row, opens, plots_by,
    reaches_by, reading_things, still_plot,
)

HOME = ((("ann", "bob"), ("box", "key"), (
    ("ann", "hand", "box"), ("bob", "take", "ann"), ("bob", "take", "key"))), ("ann", "box", "key"))
SHOP = ((("cy",), ("box",), (("cy", "take", "box"),)), ("box", "cy"))
HOUSES = (HOME, SHOP)
RIGHTS = ("take", "take", "take", "hand", "own")


# The bands as the tests see them: all PEOPLE of other HOUSES are THINGS, then DEEDS are done until nothing new comes.

def band_of(town, some):
    return {name for place in some for name in town[place][0][0]}


def still_book(town, some):
    book = towns.together(town)
    return oracle.still(book, tuple(name for name in book[0] if name not in band_of(town, some)))


def border_things(town):
    return towns.edge_of_all(town)[1]


def reached(town, some):
    """The THINGS of borders to which one of the band ever holds "take"."""
    band = band_of(town, some)
    holds = oracle.ever(still_book(town, some))
    return {what for who, right, what in holds if who in band and right == "take"} & set(border_things(town))


class Bands:
    """What each band of a town reaches; what was done once is kept."""

    def __init__(self, town):
        self.places = tuple(range(len(town)))
        self.sets = ruled.subsets(self.places)
        self.reached = {some: reached(town, some) for some in self.sets}

    def opens(self, some, secret):
        return set(secret) <= self.reached[tuple(some)]

    def others(self, readers):
        return tuple(place for place in self.places if place not in readers)

    def may_read(self, readers, secret):
        if not all(self.opens((place,), secret) for place in readers):
            return False
        lots = [some for some in self.sets if not set(some) & set(readers)]
        return not any(self.opens(some, secret) for some in lots)

    def hindered(self, readers, secret):
        for place in readers:
            if not self.opens((place,), secret):
                return (place,)
        lots = [some for some in self.sets if not set(some) & set(readers) and self.opens(some, secret)]
        return min(lots, key=lambda some: (len(some), some)) if lots else None


def drawn(seed, many, plots=(0, 1, 2, 2, 3, 3), most=3):
    """Towns with many HOLDS of "take"."""
    rng = random.Random(seed)
    found = []
    for number in range(many):
        town = []
        for place in range(plots[number % len(plots)]):
            people, things = towns.random_border(rng, most)
            inner = ("x" + "abcdef"[place], "y" + "abcdef"[place])[:rng.randint(1, 2)]
            town.append(towns.random_house(rng, people, things, inner, rng.randint(1, 6), RIGHTS))
        found.append(tuple(town))
    return found


def secrets_of(rng, town, many):
    things = border_things(town)
    lots = [()] + [(name,) for name in things]
    lots += [oracle.ascending(rng.sample(things, rng.randint(0, len(things)))) for _ in range(many)]
    return sorted(set(lots))


class Plots(Rules, unittest.TestCase):
    def test_acting(self):
        for town in drawn(1301, 40):
            for some in ruled.subsets(range(len(town))):
                self.assert_same(acting(town, some), oracle.ascending(band_of(town, some)))
        shared = (HOME, ((("ann", "cy"), ("box",), ()), ("ann", "box", "cy")))
        self.assert_same(acting(shared, (1,)), ("ann", "cy"))
        self.assert_same(acting(shared, (0, 1)), ("ann", "bob", "cy"))

    def test_still_plot(self):
        for house in houses.random_houses(1302, 60, 4):
            book, border = house
            for names in ruled.subsets(book[0]):
                turned = (oracle.still(book, tuple(name for name in book[0] if name not in names)), border)
                want = (houses.edge_of(turned), houses.letter(turned))
                self.assert_same(still_plot(house, names), want, (house, names))

    def test_plots_by(self):
        shared = 0
        for town in drawn(1303, 60):
            for some in ruled.subsets(range(len(town))):
                band = band_of(town, some)
                want = []
                for house in town:
                    people = tuple(name for name in house[0][0] if name not in band)
                    turned = (oracle.still(house[0], people), house[1])
                    want.append((houses.edge_of(turned), houses.letter(turned)))
                got = plots_by(town, some)
                self.assert_same(got, tuple(want), (town, some))
                self.assertTrue(towns.city_ok(got))
                outside = [place for place in range(len(town)) if place not in some]
                shared += any(band & set(town[place][0][0]) for place in outside)
        self.assertGreater(shared, 20)

    def test_plots_of_a_band_of_none(self):
        self.assert_same([edge for edge, _ in plots_by(HOUSES, ())], [((), ("ann", "box", "key")), ((), ("box", "cy"))])
        self.assert_same(plots_by((), ()), ())


class Reaching(Rules, unittest.TestCase):
    def test_by_deeds(self):
        seen = {True: 0, False: 0}
        for town in drawn(1311, 120):
            for some in ruled.subsets(range(len(town))):
                told = reached(town, some)
                for name in border_things(town):
                    seen[name in told] += 1
                    self.assert_same(reaches_by(town, some, name), name in told, (town, some, name))
        self.assertGreater(min(seen.values()), 200)

    def test_by_what_follows_from_plots(self):
        for town in drawn(1312, 50):
            for some in ruled.subsets(range(len(town))):
                told = towns.told(plots_by(town, some))
                for name in border_things(town):
                    want = ("both", name, name) in told
                    self.assert_same(reaches_by(town, some, name), want, (town, some, name))

    def test_by_reach_at_first(self):
        """A band reaches what it has in the REACH of its PEOPLE: so what its HOUSES reach, each by itself."""
        for town in drawn(1313, 80):
            book = towns.together(town)
            for some in ruled.subsets(range(len(town))):
                near = set().union(*(houses.reach_of(book, name) for name in band_of(town, some)))
                for name in border_things(town):
                    self.assert_same(reaches_by(town, some, name), name in near)
                    alone = any(reaches_by(town, (place,), name) for place in some)
                    self.assert_same(reaches_by(town, some, name), alone)

    def test_over_those_who_keep_still(self):
        """cy is of another house, keeps still, and is taken from all the same."""
        one = ((("ann", "cy"), (), (("ann", "take", "cy"),)), ("cy",))
        other = ((("cy",), ("box",), (("cy", "take", "box"),)), ("box", "cy"))
        third = ((("dan",), ("box",), (("dan", "hand", "box"),)), ("box",))
        self.assertIs(reaches_by((one, other), (0,), "box"), True)
        self.assertIs(reaches_by((third, one, other), (0,), "box"), False)
        book = (((("ann",), ("cy",), (("ann", "take", "cy"),)), ("cy",)), (((), ("box", "cy"), (
            ("cy", "take", "box"),)), ("box", "cy")))
        self.assertIs(reaches_by(book, (0,), "box"), True)
        self.assertIs(reaches_by(book, (1,), "box"), False)


def row_fits(town, some, name, thing):
    """Whether thing is a row of DEEDS of the band, and of those made, behind which one of its PEOPLE holds "take"."""
    if not oracle.row_ok(thing):
        return False
    told, _, barred = oracle.run(still_book(town, some), thing)
    return barred is None and any((person, "take", name) in told[2] for person in band_of(town, some))


class Rows(Rules, unittest.TestCase):
    def test_opening_row(self):
        seen = {"none": 0, "short": 0, "long": 0}
        for town in drawn(1321, 120):
            for some in ruled.subsets(range(len(town))):
                told = reached(town, some)
                for name in border_things(town):
                    row = opening_row(town, some, name)
                    self.assertEqual(row is not None, name in told, (town, some, name))
                    if row is None:
                        seen["none"] += 1
                        continue
                    seen["long" if row else "short"] += 1
                    self.assertTrue(row_fits(town, some, name, row), (town, some, name, row))
                    self.assertLessEqual({deed[1] for deed in row}, band_of(town, some) | {
                        deed[2] for deed in row if deed[0] == "make"})
                    self.assertIs(is_opening_row(town, some, name, row), True)
        self.assertGreater(min(seen.values()), 30)

    def test_is_opening_row(self):
        rng = random.Random(1322)
        seen = {True: 0, False: 0}
        for town in drawn(1322, 100, (1, 2, 2, 3)):
            for some in ruled.subsets(range(len(town))):
                for name in border_things(town):
                    sure = rng.random() < 0.7
                    row = oracle.random_row(rng, still_book(town, some), rng.randint(0, 4), sure)
                    others = oracle.random_row(rng, towns.together(town), rng.randint(1, 4), True)
                    for thing in (row, others, opening_row(town, some, name)):
                        want = row_fits(town, some, name, thing)
                        seen[want] += 1
                        self.assert_same(is_opening_row(town, some, name, thing), want, (town, some, name, thing))
        self.assertGreater(min(seen.values()), 100)

    def test_deeds_of_others_do_not_count(self):
        still = ((("ann", "bob"), ("box",), (("ann", "take", "bob"),)), ("ann", "bob", "box"))
        other = ((("bob",), ("box", "cup"), (("bob", "take", "cup"), ("cup", "take", "box"))), ("bob", "box"))
        row = (("take", "bob", "cup", "take", "box"), ("take", "ann", "bob", "take", "box"))
        alone = (("take", "ann", "bob", "take", "cup"), ("take", "ann", "cup", "take", "box"))
        self.assertIs(is_opening_row((still, other), (0,), "box", row), True)
        other = ((("cy",), ("box", "cup"), (("cup", "take", "box"), ("cy", "take", "cup"))), ("box",))
        self.assertIs(is_opening_row((still, other), (0,), "box", (("take", "cy", "cup", "take", "box"),)), False)
        self.assertIs(is_opening_row((still, other), (1,), "box", (("take", "cy", "cup", "take", "box"),)), True)
        self.assertIs(is_opening_row((still, other), (0,), "box", alone), False)

    def test_those_who_are_made_act_and_are_none_of_its_people(self):
        make, give = ("make", "cy", "kid", "person", ("hand", "take")), ("hand", "cy", "kid", "take", "box")
        far = ((("cy",), ("box", "cup"), (("cup", "take", "box"), ("cy", "take", "cup"))), ("box",))
        lend, fetch = ("hand", "cy", "kid", "take", "cup"), ("take", "kid", "cup", "take", "box")
        row = (make, lend, fetch)
        self.assertIs(is_opening_row((far,), (0,), "box", row), False)
        self.assertIs(is_opening_row((far,), (0,), "box", row + (("take", "cy", "kid", "take", "box"),)), True)
        self.assertIs(is_opening_row((SHOP,), (0,), "box", (make, give)), True)

    def test_values_of_all_kinds(self):
        row = (("take", "bob", "ann", "hand", "box"), ("make", "bob", "zed", "thing", ("hand", "take")))
        for some in ((0,), (0, 1), (1,), ()):
            for thing in list(ODD) + list(near_misses(row)):
                want = row_fits(HOUSES, some, "key", thing)
                self.assert_same(is_opening_row(HOUSES, some, "key", thing), want, (some, thing))

    def test_a_row_of_many_deeds(self):
        row = (("make", "bob", "zed", "thing", ()),) + (("take", "bob", "ann", "hand", "box"),) * 900
        self.assertIs(is_opening_row(HOUSES, (0,), "key", row), True)
        self.assertIs(is_opening_row(HOUSES, (1,), "key", row), False)


class Secrets(Rules, unittest.TestCase):
    def test_opens(self):
        rng = random.Random(1331)
        seen = {True: 0, False: 0}
        for town in drawn(1331, 80):
            bands = Bands(town)
            for secret in secrets_of(rng, town, 3):
                for some in bands.sets:
                    seen[bands.opens(some, secret)] += 1
                    self.assert_same(opens(town, some, secret), bands.opens(some, secret), (town, some, secret))
        self.assertGreater(min(seen.values()), 150)

    def test_least_openers_and_greatest_shut(self):
        rng = random.Random(1332)
        openers, shut = set(), set()
        for town in drawn(1332, 160):
            bands = Bands(town)
            for secret in secrets_of(rng, town, 3):
                lots = [some for some in bands.sets if bands.opens(some, secret)]
                want = ruled.least(lots)
                openers |= {(len(want), len(some)) for some in want} if want else {None}
                self.assert_same(least_openers(town, secret), want, (town, secret))
                closed = [len(some) for some in bands.sets if some not in lots]
                shut.add(max(closed) if closed else None)
                self.assert_same(greatest_shut(town, secret), max(closed) if closed else None, (town, secret))
        self.assertLessEqual({None, (1, 0), (1, 1), (1, 2), (2, 1)}, openers)
        self.assertLessEqual({None, 0, 1, 2, 3}, shut)

    def test_reading(self):
        rng = random.Random(1333)
        seen = {True: 0, False: 0}
        sizes = set()
        for town in drawn(1333, 140, (0, 1, 2, 3, 3, 4)):
            bands = Bands(town)
            for readers in bands.sets:
                for secret in secrets_of(rng, town, 2):
                    want = bands.may_read(readers, secret)
                    seen[want] += 1
                    self.assert_same(may_read(town, readers, secret), want, (town, readers, secret))
                    told = bands.hindered(readers, secret)
                    self.assertEqual(told is None, want)
                    sizes.add(None if told is None else len(told))
                    self.assert_same(hindered_by(town, readers, secret), told, (town, readers, secret))
                things = tuple(name for name in border_things(town) if bands.may_read(readers, (name,)))
                self.assert_same(reading_things(town, readers), things, (town, readers))
        self.assertGreater(min(seen.values()), 60)
        self.assertLessEqual({None, 0, 1, 2}, sizes)

    def test_some_secret_exactly_if_one_of_a_single_thing(self):
        found = 0
        for town in drawn(1334, 60):
            bands = Bands(town)
            for readers in bands.sets:
                lots = [secret for secret in ruled.subsets(border_things(town)) if secret]
                some = any(may_read(town, readers, secret) for secret in lots)
                found += some
                self.assertEqual(some, reading_things(town, readers) != (), (town, readers))
        self.assertGreater(found, 20)

    def test_the_secret_of_no_pieces(self):
        for town in ((), HOUSES, (SHOP,)):
            places = tuple(range(len(town)))
            for some in ruled.subsets(places):
                self.assert_same(opens(town, some, ()), True)
                self.assert_same(may_read(town, some, ()), False)
                self.assert_same(hindered_by(town, some, ()), ())
            self.assert_same(least_openers(town, ()), [()])
            self.assert_same(greatest_shut(town, ()), None)

    def test_no_houses(self):
        self.assert_same(acting((), ()), ())
        self.assert_same(reading_things((), ()), ())
        self.assert_raises("NoNumber", {"number": 0}, acting, (), (0,))
        self.assert_raises("NoMember", {"name": "box"}, least_openers, (), ("box",))

    def test_houses_without_people(self):
        one, two = (((), ("box", "cup"), (("box", "take", "cup"),)), ("box", "cup")), (((), ("box",), ()), ("box",))
        for some in ((), (0,), (1,), (0, 1)):
            self.assert_same(acting((one, two), some), ())
            self.assertIs(reaches_by((one, two), some, "cup"), False)
            self.assert_same(opening_row((one, two), some, "cup"), None)
            self.assertIs(is_opening_row((one, two), some, "cup", ()), False)
        self.assert_same(least_openers((one, two), ("cup",)), [])
        self.assert_same(greatest_shut((one, two), ("cup",)), 2)
        self.assert_same(reading_things((one, two), ()), ("box", "cup"))
        self.assert_same(hindered_by((one, two), (1,), ("cup",)), (1,))
        self.assertIs(may_read((one, two), (), ("box", "cup")), True)

    def test_the_fewest_others_hinder(self):
        """Two others open it only together, one opens it alone."""
        def owner(name, *things):
            return ((name,), oracle.ascending(things), oracle.ascending((name, "take", thing) for thing in things)), (
                oracle.ascending(things))
        town = (owner("p", "b", "c"), owner("q", "b"), owner("r", "c"), owner("s", "b", "c"), owner("t", "b", "c"))
        self.assert_same(hindered_by(town, (0,), ("b", "c")), (3,))
        self.assert_same(hindered_by(town[:3], (0,), ("b", "c")), (1, 2))
        self.assert_same(hindered_by(town, (0, 1, 2, 3), ("b", "c")), (1,))
        self.assert_same(hindered_by(town, (0, 3, 4), ("b", "c")), (1, 2))
        self.assert_same(least_openers(town, ("b", "c")), [(0,), (1, 2), (3,), (4,)])
        self.assert_same(greatest_shut(town, ("b", "c")), 1)
        self.assert_same(greatest_shut(town[:3], ("b",)), 1)


class Errors(Rules, unittest.TestCase):
    def test_numbers_first(self):
        for number in (-1, 2, 10 ** 9, -10 ** 9):
            some = (number, 5) if number < 0 else (0, number)
            for function in (acting, plots_by, reading_things):
                self.assert_raises("NoNumber", {"number": number}, function, HOUSES, some)
            for function in (reaches_by, opening_row):
                self.assert_raises("NoNumber", {"number": number}, function, HOUSES, some, "zed")
            self.assert_raises("NoNumber", {"number": number}, is_opening_row, HOUSES, some, "ann", None)
            for function in (opens, may_read, hindered_by):
                self.assert_raises("NoNumber", {"number": number}, function, HOUSES, some, ("ann", "zed"))

    def test_members_next(self):
        for name in ("bob", "zed", "", "Box"):
            for function in (reaches_by, opening_row):
                self.assert_raises("NoMember", {"name": name}, function, HOUSES, (0,), name)
            self.assert_raises("NoMember", {"name": name}, is_opening_row, HOUSES, (0,), name, ())
            for secret in ((name,), oracle.ascending(("ann", "zzz", name)), oracle.ascending(("box", name))):
                first = [one for one in secret if one not in ("ann", "box")][0]
                for function in (opens, may_read, hindered_by):
                    self.assert_raises("NoMember", {"name": first}, function, HOUSES, (0,), secret)
                for function in (least_openers, greatest_shut):
                    self.assert_raises("NoMember", {"name": first}, function, HOUSES, secret)

    def test_people_of_borders_last(self):
        for name in ("ann", "cy"):
            for function in (reaches_by, opening_row):
                self.assert_raises("Unfit", {}, function, HOUSES, (0,), name)
            self.assert_raises("Unfit", {}, is_opening_row, HOUSES, (0,), name, ())
            for function in (opens, may_read, hindered_by):
                self.assert_raises("Unfit", {}, function, HOUSES, (1,), oracle.ascending((name, "box")))
            for function in (least_openers, greatest_shut):
                self.assert_raises("Unfit", {}, function, HOUSES, (name,))

    def test_still_plot(self):
        self.assert_raises("NoMember", {"name": "cy"}, still_plot, HOME, ("box", "cy"))
        self.assert_raises("NoMember", {"name": ""}, still_plot, HOME, ("", "cy", "zed"))
        self.assert_raises("Unfit", {}, still_plot, HOME, ("ann", "key"))
        self.assert_same(still_plot(HOME, ("ann", "bob"))[0], (("ann",), ("box", "key")))


class Bounds(Rules, unittest.TestCase):
    def test_five_houses_of_a_book_at_the_bounds(self):
        rng = random.Random(1341)
        signs = "abcdefgh"
        for _ in range(3):
            town = []
            for place in range(5):
                people = tuple(f"p{place}{sign}" for sign in signs[:4]) + ("pz",)
                things = tuple(f"t{place}{sign}" for sign in signs[:4]) + ("ta", "tb", "tc")
                names, holds = people + things, set()
                while len(holds) < 24:
                    right = rng.choice(("take", "hand", "own", "see", "use"))
                    holds.add((rng.choice(names), right, rng.choice(names)))
                border = ("pz", "ta", "tb", "tc")
                named = {name: name.translate(str.maketrans("01234", "vwxyz")) for name in names}
                holds = oracle.ascending((named[a], right, named[b]) for a, right, b in holds)
                people, things = [oracle.ascending(named[name] for name in sort) for sort in (people, things)]
                town.append(((people, things, holds), border))
            self.check(tuple(town))

    def check(self, town):
        book = towns.together(town)
        self.assertLessEqual(max(len(book[0]), len(book[1])), 24)
        bands = Bands(town)
        for secret in ruled.subsets(border_things(town)):
            lots = [some for some in bands.sets if bands.opens(some, secret)]
            self.assert_same(least_openers(town, secret), ruled.least(lots))
            closed = [len(some) for some in bands.sets if some not in lots]
            self.assert_same(greatest_shut(town, secret), max(closed) if closed else None)
        for readers in bands.sets:
            self.assert_same(hindered_by(town, readers, ("ta", "tb")), bands.hindered(readers, ("ta", "tb")))
            for name in border_things(town):
                row = opening_row(town, readers, name)
                self.assertEqual(row is not None, name in bands.reached[readers])
                if row is not None:
                    self.assertTrue(row_fits(town, readers, name, row))


SOMES = ((), (0,), (1,), (0, 1), (0, 2), (-3, 0))
NAMES = ("box", "key", "ann", "bob", "zed")
LOTS = ((), ("box",), ("box", "key"), ("key",), ("ann", "box"), ("bob", "box"))
ODD_FEW = (3, None, True, "box", (), [], (("take", "bob", "ann", "hand", "box"),), [("take", "bob", "ann", "hand", "box")])
WITH_SECRET = [(town, some, secret) for town in (HOUSES, (SHOP,)) for some in SOMES for secret in LOTS]
CALLS = (
    (acting, "houses some", [(town, some) for town in (HOUSES, (SHOP,), ()) for some in SOMES]),
    (still_plot, "house names", [(house, names) for house in HOUSES for names in ((), ("ann",), ("cy",), ("box",))]),
    (plots_by, "houses some", [(town, some) for town in (HOUSES, ()) for some in SOMES]),
    (reaches_by, "houses some name", [(HOUSES, some, name) for some in SOMES for name in NAMES]),
    (opening_row, "houses some name", [(HOUSES, some, name) for some in SOMES for name in NAMES]),
    (is_opening_row, "houses some name thing", [
        (HOUSES, some, name, thing) for some in SOMES for name in NAMES[:3] for thing in ODD_FEW]),
    (opens, "houses some secret", WITH_SECRET),
    (least_openers, "houses secret", [(town, secret) for town in (HOUSES, (SHOP,), ()) for secret in LOTS]),
    (greatest_shut, "houses secret", [(town, secret) for town in (HOUSES, (SHOP,), ()) for secret in LOTS]),
    (may_read, "houses readers secret", WITH_SECRET),
    (hindered_by, "houses readers secret", WITH_SECRET),
    (reading_things, "houses readers", [(town, some) for town in (HOUSES, (SHOP,), ()) for some in SOMES]),
)


class General(Rules, unittest.TestCase):
    def test_rules_of_all_calls(self):
        self.check_calls(CALLS)


if __name__ == "__main__":
    unittest.main()
