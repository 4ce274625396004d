"""[11], with [2] and [3]: who could have broken a promise, by what was seen to come."""

import random
import unittest

import houses
import oracle
import ruled
import towns
from rules import ODD, Rules, near_misses
from touchrights.blame import (
    are_breakers, blame_alike, blamed_lines, breaking_houses, first_proof, is_breaking_houses, least_breakers,
    least_breakers_knowing, maybe_broke, surely_broke,
)

ANN, CY, DAN = (("ann",), ("box",)), (("cy",), ("box",)), (("dan",), ("box",))
HANDS = ruled.closure(ANN, (("home", "ann", "hand", "box"),))
PROMISES = (
    (ANN, HANDS), (CY, ruled.closure(CY, (("home", "cy", "take", "box"),))), (DAN, ruled.closure(DAN, ())),
)
UNBARS, SEES = ("cy", "open", "box"), ("cy", "see", "ann")
HUTS = (
    ((("ann",), ("box",), (("ann", "hand", "box"), ("ann", "see", "ann"))), ("ann", "box")),
    ((("cy",), ("box",), (("cy", "take", "box"),)), ("box", "cy")), ((("dan",), ("box",), ()), ("box", "dan")),
)
NEVER = ("ann", "own", "cup")
APART = PROMISES[:1] + (((("cy",), ("cup",)), ruled.closure((("cy",), ("cup",)), ())),)


def cities(seed, many, most=3, lines=4, plots=(1, 2, 3), things=("b", "d")):
    rng = random.Random(seed)
    return [towns.random_city(rng, plots[number % len(plots)], most, lines, towns.PEOPLE, things) for number in range(many)]


def rights_of(promises, sights):
    return {line[2] for _, lines in promises for line in lines if len(line) == 4} | {hold[1] for hold in sights}


def breakers_ok(promises, sights, some):
    free = towns.freed(promises, some, rights_of(promises, sights))
    return towns.lets_all(free, sights)


def all_breakers(promises, sights, places=None):
    places = range(len(promises)) if places is None else places
    return [some for some in ruled.subsets(places) if breakers_ok(promises, sights, some)]


def cases(seed, many, most=2):
    """Pairs of promises and sights, of which mostly some are breakers."""
    rng = random.Random(seed)
    found = []
    for city in cities(seed, many):
        edge = towns.edge_of_city(city)
        whole = towns.freed(city, range(len(city)), ("open", "own"))
        lots = [line[1:] for line in towns.told(whole) if line[0] == "home"]
        sights = rng.sample(sorted(lots), min(len(lots), rng.randint(0, most)))
        if rng.random() < 0.15:
            sights += towns.some_holds(rng, edge, 1)
        found.append((city, oracle.ascending(sights)))
    return found


class Breakers(Rules, unittest.TestCase):
    def test_all_sets_of_places(self):
        seen = {True: 0, False: 0}
        for promises, sights in cases(901, 90):
            for some in ruled.subsets(range(len(promises))):
                want = breakers_ok(promises, sights, some)
                seen[want] += 1
                self.assert_same(are_breakers(promises, sights, some), want, (promises, sights, some))
                self.assertEqual(want, all(breakers_ok(promises, (hold,), some) for hold in sights))
        self.assertGreater(min(seen.values()), 80)

    def test_houses_that_break_are_breakers(self):
        """What came in HOUSES of which all others keep: those that do not are breakers."""
        rng = random.Random(902)
        came = 0
        for town in towns.drawn(902, 80, 3, (1, 2, 3)):
            kept = towns.promised(rng, town, 1)
            some = tuple(place for place in range(len(town)) if rng.random() < 0.5)
            drawn = tuple((edge, ruled.closure(edge, ruled.some_lines(rng, edge, 2))) for edge, _ in kept)
            promises = tuple(drawn[place] if place in some else kept[place] for place in range(len(town)))
            told = sorted(towns.comes(town))
            sights = oracle.ascending(rng.sample(told, min(len(told), 4)))
            came += len(sights)
            self.assertIs(are_breakers(promises, sights, some), True, (town, promises, sights))
            self.assertIs(is_breaking_houses(promises, sights, some, town), True)
        self.assertGreater(came, 100)

    def test_least_surely_maybe(self):
        seen = set()
        for promises, sights in cases(903, 120, 3) + [((), ()), (APART, (NEVER,))]:
            breakers = all_breakers(promises, sights)
            want = ruled.least(breakers)
            self.assert_same(least_breakers(promises, sights), want, (promises, sights))
            places = tuple(range(len(promises)))
            if not breakers:
                seen.add(None)
                self.assert_raises("Unfit", {}, surely_broke, promises, sights)
                self.assert_raises("Unfit", {}, maybe_broke, promises, sights)
                continue
            surely = tuple(place for place in places if all(place in some for some in breakers))
            maybe = oracle.ascending(place for some in want for place in some)
            seen.add((len(want), len(surely), len(maybe)))
            self.assert_same(surely_broke(promises, sights), surely, (promises, sights))
            self.assert_same(maybe_broke(promises, sights), maybe, (promises, sights))
            for place in places:
                others = tuple(other for other in places if other != place)
                self.assertEqual(place in surely, not are_breakers(promises, sights, others))
        self.assertLessEqual({None, (1, 0, 0), (1, 1, 1), (2, 0, 2)}, seen)

    def test_first_proof(self):
        rng = random.Random(904)
        seen = set()
        for city in cities(904, 80):
            edge = towns.edge_of_city(city)
            come = [line[1:] for line in towns.told(city) if line[0] == "home"]
            sights = [rng.choice(come) for _ in range(rng.randint(0, 4))] if come else []
            sights = tuple(sights) + tuple(rng.choice(towns.all_holds(edge)) for _ in range(rng.randint(0, 2)))
            want = None
            for place in reversed(range(len(sights))):
                if not breakers_ok(city, sights[:place + 1], ()):
                    want = place
            seen.add(want)
            self.assert_same(first_proof(city, sights), want, (city, sights))
        self.assertLessEqual({None, 0, 1, 2}, seen)
        self.assert_same(first_proof(PROMISES, (UNBARS, UNBARS)), 0)
        self.assert_same(first_proof(PROMISES, (("cy", "take", "box"),) * 5 + (SEES,)), 5)
        self.assert_same(first_proof(PROMISES, ()), None)

    def test_blamed_lines(self):
        sizes = set()
        for promises, sights in cases(905, 60, 2):
            for number, (edge, lines) in enumerate(promises):
                if len(edge[0] + edge[1]) > 2:
                    continue
                rest = [line for line in towns.full(edge, rights_of(promises, sights))[1] if line not in lines]
                want = tuple(line for line in rest if towns.lets_all(promises, sights, (line,)))
                if towns.lets_all(promises, sights):
                    want = ()
                sizes.add(min(len(want), 2))
                self.assert_same(blamed_lines(promises, sights, number), want, (promises, sights, number))
        self.assertEqual(sizes, {0, 1, 2})
        self.assert_same(blamed_lines(PROMISES, (("cy", "take", "box"),), 0), ())


class Knowing(Rules, unittest.TestCase):
    def test_least_breakers_knowing(self):
        rng = random.Random(911)
        seen = set()
        for promises, sights in cases(911, 120, 2):
            numbers = [number for number in range(len(promises)) if rng.random() < 0.4]
            known = []
            for number in numbers:
                edge = promises[number][0]
                more = ruled.some_lines(rng, edge, 4, ("open", "own", "take"))
                known.append((number, ruled.closure(edge, rng.choice((more, promises[number][1])))))
            told = dict(known)
            plots = tuple((edge, told.get(place, lines)) for place, (edge, lines) in enumerate(promises))
            others = [place for place in range(len(promises)) if place not in numbers]
            want = ruled.least(all_breakers(plots, sights, others))
            seen.add((len(numbers), len(want)))
            self.assert_same(least_breakers_knowing(promises, sights, tuple(known)), want, (promises, sights, known))
            self.assert_same(least_breakers_knowing(promises, sights, ()), least_breakers(promises, sights))
        self.assertLessEqual({(0, 1), (1, 0), (1, 1), (2, 1)}, seen)

    def test_known_houses_never_break_again(self):
        self.assert_same(least_breakers_knowing(PROMISES, (SEES,), ((0, HANDS),)), [])
        whole = towns.full(ANN, ("see",))[1]
        self.assert_same(least_breakers_knowing(PROMISES, (SEES,), ((0, whole),)), [()])
        self.assert_same(least_breakers_knowing(PROMISES, (SEES,), ((2, PROMISES[2][1]),)), [(0,)])


class Houses(Rules, unittest.TestCase):
    def test_breaking_houses(self):
        some_ones = none = 0
        for promises, sights in cases(921, 40, 2):
            for some in ruled.subsets(range(len(promises))):
                town = breaking_houses(promises, sights, some)
                if not breakers_ok(promises, sights, some):
                    none += 1
                    self.assert_same(town, None, (promises, sights, some))
                    continue
                some_ones += 1
                self.assertTrue(towns.about_ok(promises, some, sights, town), (promises, sights, some, town))
                self.assertIs(is_breaking_houses(promises, sights, some, town), True)
        self.assertGreater(min(some_ones, none), 25)

    def test_is_breaking_houses(self):
        rng = random.Random(922)
        good = 0
        for town in towns.drawn(922, 40, 3, (1, 2, 3)):
            promises = towns.promised(rng, town)
            other = tuple(towns.random_house(rng, *houses.edge_of(house), ("z" + "abc"[place],), 5)
                          for place, house in enumerate(town))
            mixed = tuple(rng.choice(pair) for pair in zip(town, other))
            for thing in (town, other, mixed, town[1:], town[::-1], list(town), town + town[:1]):
                lots = sorted(towns.comes(thing)) if towns.with_edges_ok([edge for edge, _ in promises], thing) else []
                sights = oracle.ascending(rng.sample(lots, min(2, len(lots))))
                wrong = towns.some_holds(rng, towns.edge_of_all(town), 1)
                for holds in (sights, sights + wrong if wrong and wrong[0] not in sights else wrong):
                    holds = oracle.ascending(holds)
                    for some in ruled.subsets(range(len(town)))[::2]:
                        want = towns.about_ok(promises, some, holds, thing)
                        good += want
                        self.assert_same(is_breaking_houses(promises, holds, some, thing), want, (promises, holds, some, thing))
        self.assertGreater(good, 100)

    def test_is_breaking_houses_at_values_of_all_kinds(self):
        promises = ((ANN, ruled.closure(ANN, ())),)
        town = (((("ann",), ("box",), (("ann", "own", "box"),)), ("ann", "box")),)
        for some in ((), (0,)):
            for thing in list(ODD) + list(near_misses(town)) + [town]:
                want = towns.about_ok(promises, some, (("ann", "own", "box"),), thing)
                self.assert_same(is_breaking_houses(promises, (("ann", "own", "box"),), some, thing), want, thing)
        self.assertIs(is_breaking_houses(promises, (("ann", "own", "box"),), (0,), town), True)
        self.assertIs(is_breaking_houses(promises, (("ann", "own", "box"),), (), town), False)


class Alike(Rules, unittest.TestCase):
    def alike(self, promises, one, other):
        """Each one HOLD tells, with all rights that are told, and with two that are told nowhere."""
        edge = towns.edge_of_city(promises)
        rights = rights_of(promises, ()) | {"hand", "none", "other", "take"}
        for hold in towns.all_holds(edge, sorted(rights)):
            if breakers_ok(promises, (hold,), (one,)) != breakers_ok(promises, (hold,), (other,)):
                return False
        return True

    def test_blame_alike(self):
        rng = random.Random(931)
        found = 0
        lots = cities(931, 30, 2, 3, (2, 3), ("b",)) + [PROMISES, PROMISES + PROMISES[2:], ()]
        for city in cities(932, 10, 2, 2, (1, 2), ("b",)):
            lots.append(city + (rng.choice(city),))
        for promises in lots:
            places = range(len(promises))
            want = [(one, other) for one in places for other in places
                    if one < other and self.alike(promises, one, other)]
            found += len(want)
            self.assert_same(blame_alike(promises), want, promises)
        self.assertGreater(found, 8)

    def test_alike_by_several_holds(self):
        rng = random.Random(933)
        for city in cities(933, 20, 2, 2, (2, 3), ("b",)):
            lots = towns.all_holds(towns.edge_of_city(city), ("hand", "none", "own", "take"))
            for one, other in blame_alike(city):
                for _ in range(10):
                    sights = oracle.ascending(rng.sample(lots, min(3, len(lots))))
                    self.assertEqual(breakers_ok(city, sights, (one,)), breakers_ok(city, sights, (other,)))

    def test_a_right_that_no_line_tells(self):
        """Both bring all that they promise to others: only a right that is told nowhere tells them apart."""
        edge = ((), ("b",))
        full = towns.full(edge, ())
        wide = ((), ("b", "d"))
        promises = (full, (wide, towns.full(wide, ())[1]))
        self.assert_same(blame_alike(promises), [])
        hold = ("d", "new", "d")
        self.assertNotEqual(breakers_ok(promises, (hold,), (0,)), breakers_ok(promises, (hold,), (1,)))
        for right in ("hand", "take"):
            for hold in towns.all_holds(wide, (right,)):
                self.assertEqual(breakers_ok(promises, (hold,), (0,)), breakers_ok(promises, (hold,), (1,)))


class Errors(Rules, unittest.TestCase):
    def test_no_member(self):
        eve, zed = ("eve", "see", "zed"), ("ann", "see", "zed")
        for function, more in ((least_breakers, ()), (surely_broke, ()), (maybe_broke, ()), (first_proof, ()),
                               (are_breakers, ((0,),)), (blamed_lines, (0,)), (least_breakers_knowing, (((0, HANDS),),)),
                               (breaking_houses, ((0,),)), (is_breaking_houses, ((0,), 3))):
            self.assert_raises("NoMember", {"name": "eve"}, function, PROMISES, (UNBARS, eve), *more)
            self.assert_raises("NoMember", {"name": "zed"}, function, PROMISES, (zed, eve), *more)
            self.assert_raises("NoMember", {"name": "eve"}, function, PROMISES, (eve, zed), *more)

    def test_no_number_ahead_of_no_member(self):
        eve = (("eve", "see", "zed"),)
        for sights in (eve, (UNBARS,), ()):
            for function, more in ((are_breakers, ()), (breaking_houses, ()), (is_breaking_houses, (None,))):
                self.assert_raises("NoNumber", {"number": -1}, function, PROMISES, sights, (-1, 0, 5), *more)
                self.assert_raises("NoNumber", {"number": 3}, function, PROMISES, sights, (0, 3, 5), *more)
            for number in (-1, 3, 10 ** 9):
                self.assert_raises("NoNumber", {"number": number}, blamed_lines, PROMISES, sights, number)
                known = ((number, HANDS),) if number < 0 else ((0, HANDS), (number, HANDS))
                self.assert_raises("NoNumber", {"number": number}, least_breakers_knowing, PROMISES, sights, known)

    def test_unfit_if_there_are_none(self):
        for function in (surely_broke, maybe_broke):
            self.assert_raises("Unfit", {}, function, APART, (NEVER,))
            self.assert_raises("NoMember", {"name": "zed"}, function, APART, (NEVER, ("ann", "own", "zed")))
        self.assert_same(least_breakers(APART, (NEVER,)), [])


class Bounds(Rules, unittest.TestCase):
    def test_four_plots_six_names_six_sights(self):
        rng = random.Random(941)
        rights = ("hand", "open", "own", "see", "take")
        for _ in range(4):
            city = towns.random_city(rng, 4, 4, 4, ("a", "c", "f"), ("m", "n", "o"), ("hand", "own", "take"))
            whole = towns.freed(city, range(4), rights)
            lots = [line[1:] for line in towns.told(whole) if line[0] == "home"]
            for many in (1, 3, 6):
                sights = oracle.ascending(rng.sample(sorted(lots), many))
                breakers = all_breakers(city, sights)
                want = ruled.least(breakers)
                self.assert_same(least_breakers(city, sights), want)
                self.assert_same(surely_broke(city, sights), tuple(
                    place for place in range(4) if all(place in some for some in breakers)))
                self.assert_same(maybe_broke(city, sights), oracle.ascending(place for some in want for place in some))
                town = breaking_houses(city, sights, want[0])
                self.assertIs(is_breaking_houses(city, sights, want[0], town), True)
                self.assertLessEqual(set(sights), towns.comes(town))
                self.assertEqual([houses.edge_of(house) for house in town], [edge for edge, _ in city])
                self.assertTrue(towns.apart_ok(town))
            homes = []
            for place in range(4):
                told = towns.told(towns.freed(city, (place,), rights_of(city, ()) | {"none"}))
                homes.append({line for line in told if line[0] == "home"})
            want = [(one, other) for one in range(4) for other in range(4) if one < other and homes[one] == homes[other]]
            self.assert_same(blame_alike(city), want)


SIGHTS = ((), (UNBARS,), (SEES, UNBARS)[::-1], (("cy", "hand", "box"),), (("eve", "open", "box"),))
SOMES = ((), (0,), (1, 2), (0, 3))
KNOWN = ((), ((0, HANDS),), ((0, HANDS), (2, PROMISES[2][1])), ((3, HANDS),))
ODD_FEW = (3, None, True, "box", (), HUTS, list(HUTS), HUTS[:2] + (list(HUTS[2]),))
WITH_SIGHTS = [(PROMISES, sights) for sights in SIGHTS]
WITH_SOME = [(PROMISES, sights, some) for sights in SIGHTS for some in SOMES]
CALLS = (
    (are_breakers, "promises sights some", WITH_SOME),
    (least_breakers, "promises sights", WITH_SIGHTS + [(APART, (NEVER,))]),
    (surely_broke, "promises sights", WITH_SIGHTS + [(APART, (NEVER,))]),
    (maybe_broke, "promises sights", WITH_SIGHTS + [(APART, (NEVER,))]),
    (first_proof, "promises sights", WITH_SIGHTS + [(PROMISES, (UNBARS, SEES, UNBARS))]),
    (blamed_lines, "promises sights number", [(PROMISES, sights, number) for sights in SIGHTS for number in (0, 2, 3, -1)]),
    (least_breakers_knowing, "promises sights known", [(PROMISES, sights, known) for sights in SIGHTS for known in KNOWN]),
    (breaking_houses, "promises sights some", WITH_SOME),
    (is_breaking_houses, "promises sights some thing", [call + (thing,) for call in WITH_SOME for thing in ODD_FEW]),
    (blame_alike, "promises", [(PROMISES,), (APART,), (PROMISES + PROMISES[2:],), ((),)]),
)


class General(Rules, unittest.TestCase):
    def test_rules_of_all_calls(self):
        self.check_calls(CALLS)


if __name__ == "__main__":
    unittest.main()
