"""[12], with [2] and [3]: what comes in a CITY with some offers."""

import itertools
import random
import unittest

import houses
import oracle
import ruled
import towns
from rules import Rules
from touchrights.cities import city_of, is_city
from touchrights.offers import (
    all_least_offers, all_least_seals, clashing_offers, comes_with, fewest_offers, fewest_seals, greatest_safe, is_safe,
    needed_offers, offered_city, opened_with, safe_offers,
)

ONE = ((("ann", "bob"), ("box",), (("ann", "take", "bob"), ("bob", "own", "box"))), ("ann", "box"))
OTHER = ((("cy",), ("box", "ink"), (("cy", "take", "box"),)), ("box", "cy", "ink"))
CITY, HOLD = city_of((ONE, OTHER)), ("cy", "own", "box")
OFFERS = (("ann", "hand", "box"), ("ann", "hand", "ink"), ("cy", "take", "ink"))
RIGHTS = ("hand", "own", "take")


def homes(offers):
    return tuple(("home",) + offer for offer in offers)


def come(city, offers):
    """All HOLDS that come with these offers, by the RULES."""
    return {line[1:] for line in towns.told(city, homes(offers)) if line[0] == "home"}


def cases(seed, many, most=4, plots=(1, 2, 3), things=("b", "d")):
    """CITIES with offers between their NAMES."""
    rng = random.Random(seed)
    found = []
    for number in range(many):
        city = towns.random_city(rng, plots[number % len(plots)], 3, 2, towns.PEOPLE, things)
        lots = towns.all_holds(towns.edge_of_city(city), ("hand", "hand", "own", "take", "take"))
        found.append((city, oracle.ascending(rng.sample(lots, min(len(lots), rng.randint(0, most))))))
    return found


def asked(rng, city, offers, many):
    """HOLDS that come with all offers, such as do not come without any first, and others."""
    late = sorted(come(city, offers) - come(city, ()) - set(offers))
    lots = rng.sample(late, min(many, len(late))) + rng.sample(sorted(come(city, offers)), min(1, len(come(city, offers))))
    return oracle.ascending(lots + list(towns.some_holds(rng, towns.edge_of_city(city), 1)))


class Coming(Rules, unittest.TestCase):
    def test_by_the_rules(self):
        for city, offers in cases(1001, 50):
            told = come(city, offers)
            for hold in towns.all_holds(towns.edge_of_city(city)):
                self.assert_same(comes_with(city, offers, hold), hold in told, (city, offers, hold))
                self.assert_same(is_safe(city, offers, (hold,)), hold not in told)

    def test_in_houses_that_stand_for_the_city(self):
        rng = random.Random(1002)
        opened = 0
        for town in towns.drawn(1002, 60, 3, (1, 2, 3)):
            city, edge = towns.city_of(town), towns.edge_of_all(town)
            offers = towns.some_holds(rng, edge, 3, RIGHTS)
            book = towns.together(town)
            with_all = oracle.ever(oracle.side_by_side(book, ((), (), offers)))
            with_all = oracle.among(with_all, towns.names_of(edge))
            opened += len(with_all - towns.comes(town)) - len(set(offers) - towns.comes(town))
            for hold in towns.all_holds(edge):
                self.assert_same(comes_with(city, offers, hold), hold in with_all, (town, offers, hold))
            self.assert_same(opened_with(city, offers), oracle.ascending(with_all - towns.comes(town)), (town, offers))
        self.assertGreater(opened, 60)

    def test_opened_with(self):
        for city, offers in cases(1003, 60, 6):
            want = oracle.ascending(come(city, offers) - come(city, ()))
            self.assert_same(opened_with(city, offers), want, (city, offers))
        self.assert_same(opened_with(CITY, ()), ())
        self.assertIn(("ann", "see", "box"), opened_with(CITY, (("ann", "see", "box"),)))

    def test_offered_city(self):
        for city, offers in cases(1004, 60, 6):
            people, things = towns.edge_of_city(city)
            plots = []
            for who, right, what in offers:
                edge = (oracle.ascending({who, what} & set(people)), oracle.ascending({who, what} & set(things)))
                plots.append((edge, ruled.closure(edge, (("home", who, right, what),))))
            told = offered_city(city, offers)
            self.assert_same(told, city + tuple(plots), (city, offers))
            self.assertIs(is_city(told), True)
            self.assertEqual(towns.told(told), towns.told(city, homes(offers)))

    def test_an_offer_of_a_name_to_itself(self):
        told = offered_city(CITY, (("box", "take", "box"),))
        self.assert_same(told[2][0], ((), ("box",)))
        self.assert_same(told[2][1], ruled.closure(told[2][0], (("home", "box", "take", "box"),)))


class Safe(Rules, unittest.TestCase):
    def test_safe_and_clashing(self):
        rng = random.Random(1011)
        clashes = 0
        for city, offers in cases(1011, 90, 5):
            for holds in ((), asked(rng, city, offers, 2)[:1], asked(rng, city, offers, 3)):
                def safe(some):
                    return not come(city, some) & set(holds)
                self.assert_same(is_safe(city, offers, holds), safe(offers))
                want = tuple(offer for offer in offers if safe((offer,)))
                self.assert_same(safe_offers(city, offers, holds), want, (city, offers, holds))
                pairs = tuple(pair for pair in itertools.combinations(want, 2) if not safe(pair))
                clashes += len(pairs)
                self.assert_same(clashing_offers(city, offers, holds), pairs, (city, offers, holds))
        self.assertGreater(clashes, 12)

    def test_greatest_safe(self):
        rng = random.Random(1012)
        seen = set()
        for city, offers in cases(1012, 70, 6):
            for holds in ((), asked(rng, city, offers, 2)[:1], asked(rng, city, offers, 3)):
                lots = [some for some in ruled.subsets(offers) if not come(city, some) & set(holds)]
                want = sorted(some for some in lots if not any(set(some) < set(other) for other in lots))
                seen |= {(len(want), len(some)) for some in want} if want else {None}
                self.assert_same(greatest_safe(city, offers, holds), want, (city, offers, holds))
        self.assertLessEqual({None, (1, 0), (1, 1), (2, 2), (2, 3)}, seen)

    def test_two_by_two_and_not_all_three(self):
        edge = (("ann",), ("box", "cup"))
        city = ((edge, ruled.closure(edge, (("home", "ann", "own", "ann"),))), (((("bob",), ("box", "cup")), ruled.closure(
            (("bob",), ("box", "cup")), ()))))
        offers, hold = (("ann", "hand", "box"), ("bob", "take", "cup"), ("cup", "take", "box")), ("bob", "own", "ann")
        self.assert_same(safe_offers(city, offers, (hold,)), offers)
        self.assert_same(clashing_offers(city, offers, (hold,)), ())
        self.assertIs(is_safe(city, offers, (hold,)), False)
        self.assert_same(greatest_safe(city, offers, (hold,)), [offers[:2], offers[::2], offers[1:]])
        self.assert_same(all_least_offers(city, offers, hold), [offers])
        self.assert_same(all_least_seals(city, offers, hold), [(offer,) for offer in offers])

    def test_in_houses_that_keep_promises(self):
        """Offers that are safe in a CITY of promises open nothing of it in HOUSES that keep them."""
        rng = random.Random(1013)
        for town in towns.drawn(1013, 40, 3, (1, 2, 3)):
            promises, edge = towns.promised(rng, town), towns.edge_of_all(town)
            offers = towns.some_holds(rng, edge, 2, RIGHTS)
            book = oracle.side_by_side(towns.together(town), ((), (), offers))
            told = oracle.among(oracle.ever(book), towns.names_of(edge))
            for hold in towns.all_holds(edge, ("hand", "own", "take")):
                if is_safe(promises, offers, (hold,)):
                    self.assertNotIn(hold, told, (town, promises, offers))


class Least(Rules, unittest.TestCase):
    def test_by_all_sets(self):
        rng = random.Random(1021)
        seen = set()
        for city, offers in cases(1021, 110, 6):
            for hold in asked(rng, city, offers, 3):
                lots = ruled.subsets(offers)
                bring = [some for some in lots if hold in come(city, some)]
                seal = [some for some in lots if hold not in come(city, [one for one in offers if one not in some])]
                self.check(city, offers, hold, ruled.least(bring), ruled.least(seal))
                seen.add((min(len(ruled.least(bring)), 2), min(len(ruled.least(seal)), 2)))
                self.check_needed(city, offers, hold, set(bring))
        self.assertLessEqual({(0, 1), (1, 0), (1, 1), (1, 2), (2, 1)}, seen)

    def check(self, city, offers, hold, least, seals):
        self.assert_same(all_least_offers(city, offers, hold), least, (city, offers, hold))
        self.assert_same(all_least_seals(city, offers, hold), seals, (city, offers, hold))
        for function, lots in ((fewest_offers, least), (fewest_seals, seals)):
            want = min(lots, key=lambda some: (len(some), some)) if lots else None
            self.assert_same(function(city, offers, hold), want, (city, offers, hold))
        self.assertTrue(all(set(one) & set(other) for one in least for other in seals))
        for ones, others in ((least, seals), (seals, least)):
            hit = [some for some in ruled.subsets(offers) if all(set(some) & set(other) for other in others)]
            self.assertEqual(ruled.least(hit), ones)

    def check_needed(self, city, offers, hold, bring):
        want = None
        if offers in bring:
            want = tuple(one for one in offers if tuple(other for other in offers if other != one) not in bring)
        self.assert_same(needed_offers(city, offers, hold), want, (city, offers, hold))

    def test_what_comes_without_any(self):
        hold = ("ann", "own", "box")
        for offers in ((), OFFERS):
            self.assert_same(all_least_offers(CITY, offers, hold), [()])
            self.assert_same(fewest_offers(CITY, offers, hold), ())
            self.assert_same(needed_offers(CITY, offers, hold), ())
            self.assert_same(all_least_seals(CITY, offers, hold), [])
            self.assert_same(fewest_seals(CITY, offers, hold), None)
            self.assert_same(greatest_safe(CITY, offers, (hold,)), [])

    def test_what_comes_with_none(self):
        hold = ("ink", "own", "ann")
        for offers in ((), OFFERS):
            self.assert_same(all_least_offers(CITY, offers, hold), [])
            self.assert_same(fewest_offers(CITY, offers, hold), None)
            self.assert_same(needed_offers(CITY, offers, hold), None)
            self.assert_same(all_least_seals(CITY, offers, hold), [()])
            self.assert_same(fewest_seals(CITY, offers, hold), ())
            self.assert_same(greatest_safe(CITY, offers, (hold,)), [offers])

    def test_the_fewest_is_the_least_of_the_fewest(self):
        offers = (("ann", "hand", "box"), ("cy", "own", "box"), ("cy", "take", "ann"))
        self.assert_same(all_least_offers(CITY, offers, HOLD), [(offer,) for offer in offers])
        self.assert_same(fewest_offers(CITY, offers, HOLD), offers[:1])
        self.assert_same(fewest_offers(CITY, OFFERS, HOLD), OFFERS[:1])
        self.assert_same(fewest_seals(CITY, OFFERS[1:], HOLD), OFFERS[1:2])


class Errors(Rules, unittest.TestCase):
    def test_no_member(self):
        first, second, third = ("eve", "own", "zed"), ("ann", "own", "zed"), ("bob", "take", "ann")
        for function in (comes_with, all_least_offers, fewest_offers, needed_offers, all_least_seals, fewest_seals):
            self.assert_raises("NoMember", {"name": "bob"}, function, CITY, OFFERS, third)
            self.assert_raises("NoMember", {"name": "zed"}, function, CITY, (second,), third)
            self.assert_raises("NoMember", {"name": "eve"}, function, CITY, (OFFERS[0], first, second), HOLD)
            self.assert_raises("NoMember", {"name": "zed"}, function, CITY, (second, first), HOLD)
            self.assert_raises("NoMember", {"name": "zed"}, function, CITY, (), second)
        for function in (is_safe, safe_offers, clashing_offers, greatest_safe):
            self.assert_raises("NoMember", {"name": "bob"}, function, CITY, OFFERS, (HOLD, third))
            self.assert_raises("NoMember", {"name": "zed"}, function, CITY, (second,), (third,))
            self.assert_raises("NoMember", {"name": "eve"}, function, CITY, (first, second), ())
            self.assert_raises("NoMember", {"name": "eve"}, function, CITY, (), (HOLD, first))
        for function in (offered_city, opened_with):
            self.assert_raises("NoMember", {"name": "eve"}, function, CITY, (OFFERS[0], first, second))
            self.assert_raises("NoMember", {"name": "zed"}, function, CITY, (second, third))
            self.assert_raises("NoMember", {"name": "eve"}, function, (), (first,))


class Bounds(Rules, unittest.TestCase):
    def test_five_names_six_offers(self):
        rng = random.Random(1031)
        rights = ("hand", "open", "own", "see", "take")
        for _ in range(5):
            city = towns.random_city(rng, 4, 4, 2, ("a", "c"), ("m", "n", "o"), rights)
            edge = towns.edge_of_city(city)
            offers = oracle.ascending(rng.sample(towns.all_holds(edge, rights), 6))
            for hold in asked(rng, city, offers, 2):
                bring = [some for some in ruled.subsets(offers) if hold in come(city, some)]
                seal = [some for some in ruled.subsets(offers) if hold not in come(
                    city, [one for one in offers if one not in some])]
                self.assert_same(all_least_offers(city, offers, hold), ruled.least(bring))
                self.assert_same(all_least_seals(city, offers, hold), ruled.least(seal))
                lots = [some for some in ruled.subsets(offers) if some not in bring]
                want = sorted(some for some in lots if not any(set(some) < set(other) for other in lots))
                self.assert_same(greatest_safe(city, offers, (hold,)), want)

    def test_cities_of_six_houses_and_eight_names(self):
        rng = random.Random(1032)
        people, things = ("a", "b", "c", "d"), ("m", "n", "o", "p")
        town = []
        for sign in "uvwxyz":
            some = rng.sample(people, 2), rng.sample(things, 2)
            town.append(towns.random_house(rng, oracle.ascending(some[0]), oracle.ascending(some[1]), ("x" + sign,), 3))
        city, edge = city_of(town), towns.edge_of_all(town)
        self.assertEqual(houses.edge_of(town[0]), city[0][0])
        offers = oracle.ascending(rng.sample(towns.all_holds(edge, ("hand", "own", "take")), 6))
        told = oracle.ever(oracle.side_by_side(towns.together(town), ((), (), offers)))
        want = oracle.ascending(oracle.among(told, towns.names_of(edge)) - towns.comes(town))
        self.assert_same(opened_with(city, offers), want)
        for hold in towns.all_holds(edge, ("own", "take"))[::5]:
            self.assert_same(comes_with(city, offers, hold), hold in told)


LOTS = ((), OFFERS, OFFERS[:1], OFFERS + (("eve", "own", "ann"),), (("box", "own", "zed"),))
HOLDS = (HOLD, ("ann", "own", "box"), ("ink", "own", "ann"), ("cy", "own", "bob"), ("x", "own", "y"))
WITH_HOLD = [(CITY, offers, hold) for offers in LOTS for hold in HOLDS]
WITH_HOLDS = [(CITY, offers, holds) for offers in LOTS for holds in ((), HOLDS[:1], HOLDS[1:3], HOLDS[3:4])]
CALLS = (
    (offered_city, "city offers", [(CITY, offers) for offers in LOTS]),
    (comes_with, "city offers hold", WITH_HOLD),
    (opened_with, "city offers", [(CITY, offers) for offers in LOTS]),
    (is_safe, "city offers holds", WITH_HOLDS),
    (safe_offers, "city offers holds", WITH_HOLDS),
    (clashing_offers, "city offers holds", WITH_HOLDS),
    (greatest_safe, "city offers holds", WITH_HOLDS),
    (all_least_offers, "city offers hold", WITH_HOLD),
    (fewest_offers, "city offers hold", WITH_HOLD),
    (needed_offers, "city offers hold", WITH_HOLD),
    (all_least_seals, "city offers hold", WITH_HOLD),
    (fewest_seals, "city offers hold", WITH_HOLD),
)


class General(Rules, unittest.TestCase):
    def test_rules_of_all_calls(self):
        self.check_calls(CALLS)


if __name__ == "__main__":
    unittest.main()
