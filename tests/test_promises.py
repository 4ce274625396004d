"""[10], with [2] and [3]: promises, and what they bar."""

import random
import unittest

import houses
import oracle
import ruled
import towns
from rules import ODD, Rules, near_misses
from touchrights.cities import city_of, is_city
from touchrights.follows import all_that_follow
from touchrights.promises import (
    barred, barred_but, free_places, freed, full_plot, greatest_more, is_keepers_for, is_shield, keepers_for, keeps,
    kept_places, least_clashes, least_enough, let_more, shield, spare_lines,
)

FLAT = ((("ann",), ("box",), (("ann", "take", "box"),)), ("ann", "box"))
SHOP = ((("ivy",), ("box", "cup"), (("ivy", "hand", "box"), ("ivy", "take", "cup"))), ("box", "cup"))
STORE = ((("dan",), ("cup",), (("cup", "own", "dan"),)), ("cup", "dan"))
TOWN = (FLAT, SHOP, STORE)
CITY = city_of(TOWN)
CALM = CITY[:2] + ((CITY[2][0], ruled.closure(CITY[2][0], ())),)
OWN = ("ann", "own", "dan")
RIGHTS = ("none", "own", "take")


def cities(seed, many, most=3, lines=4, plots=(1, 2, 3), people=towns.PEOPLE, things=("b", "d")):
    """CITIES of one to three plots, of at most four NAMES in all."""
    rng = random.Random(seed)
    return [towns.random_city(rng, plots[number % len(plots)], most, lines, people, things) for number in range(many)]


def holds_of(city, rights=RIGHTS):
    return towns.all_holds(towns.edge_of_city(city), rights)


def random_more(rng, city, many):
    """Pairs (number, line), at most so many."""
    pairs = [(number, line) for number, (edge, _) in enumerate(city) for line in houses.all_lines(edge, ruled.RIGHTS)]
    return oracle.ascending(rng.sample(pairs, min(many, len(pairs))))


class Keeping(Rules, unittest.TestCase):
    def test_keeps_and_kept_places(self):
        rng = random.Random(801)
        seen = set()
        for town in towns.drawn(801, 60):
            letters = [houses.letter(house) for house in town]
            kept = towns.promised(rng, town)
            drawn = tuple((edge, ruled.closure(edge, ruled.some_lines(rng, edge, 6))) for edge, _ in kept)
            mixed = tuple(rng.choice(pair) for pair in zip(kept, drawn))
            for promises in (kept, drawn, mixed):
                want = tuple(place for place, letter in enumerate(letters) if set(letter) <= set(promises[place][1]))
                self.assert_same(kept_places(town, promises), want)
                for place, house in enumerate(town):
                    seen.add(place in want)
                    self.assert_same(keeps(house, promises[place][1]), place in want)
        self.assertEqual(seen, {True, False})

    def test_keeps_behind_deeds(self):
        rng = random.Random(802)
        for town in towns.drawn(802, 60, 3, (1,)):
            (book, border), = town
            later = (oracle.run(book, oracle.random_row(rng, book, 12, True))[0], border)
            edge = houses.edge_of(town[0])
            for lines in (houses.letter(town[0]), ruled.closure(edge, ruled.some_lines(rng, edge, 8))):
                self.assert_same(keeps(later, lines), keeps(town[0], lines), (town, later))

    def test_kept_places_unfit(self):
        for town in (TOWN[:2], TOWN + (FLAT,), TOWN[::-1], (), (FLAT, SHOP, (STORE[0], ("cup",))),
                     (FLAT, SHOP, (((), ("cup", "dan"), ()), ("cup", "dan")))):
            self.assert_raises("Unfit", {}, kept_places, town, CITY)
        self.assert_same(kept_places((), ()), ())

    def test_keeps_no_member(self):
        self.assert_raises("NoMember", {"name": "ivy"}, keeps, STORE, (("both", "cup", "cup"), ("takes", "ivy", "eve")))
        self.assert_raises("NoMember", {"name": "eve"}, keeps, STORE, (("home", "cup", "own", "eve"),))
        self.assert_raises("NoMember", {"name": "ann"}, keeps, STORE, CITY[0][1])

    def test_full_and_freed(self):
        for edge in ruled.EDGES:
            for rights in ((), ("own",), ("hand", "own", "see"), ("take",)):
                self.assert_same(full_plot(edge, rights), towns.full(edge, rights))
        for city in cities(803, 20):
            for some in ruled.subsets(range(len(city))):
                for right in ("own", "take", "use"):
                    told = freed(city, some, right)
                    self.assert_same(told, towns.freed(city, some, (right,)))
                    self.assertIs(is_city(told), True)


class Barred(Rules, unittest.TestCase):
    def test_by_the_rules(self):
        seen = {True: 0, False: 0}
        for city in cities(811, 60) + [()]:
            for hold in holds_of(city):
                want = not towns.lets(city, hold)
                seen[want] += 1
                self.assert_same(barred(city, hold), want, (city, hold))
                for some in ruled.subsets(range(len(city))):
                    free = towns.freed(city, some, hold[1:2])
                    self.assert_same(barred_but(city, some, hold), not towns.lets(free, hold), (city, some, hold))
        self.assertGreater(min(seen.values()), 60)

    def test_what_is_barred_never_comes(self):
        """FOR ALL KEPT: HOUSES that keep their promises, and in a place left free whatever HOUSE."""
        rng = random.Random(812)
        came = 0
        for town in towns.drawn(812, 60, 3, (1, 2, 3)):
            promises = towns.promised(rng, town)
            told = towns.comes(town)
            came += len(told)
            for hold in told:
                self.assertIs(barred(promises, hold), False, (town, promises, hold))
            place = rng.randrange(len(town))
            edge = houses.edge_of(town[place])
            guest = towns.random_house(rng, edge[0], edge[1], ("xz", "yz"), 6)
            for hold in towns.comes(town[:place] + (guest,) + town[place + 1:]):
                self.assertIs(barred_but(promises, (place,), hold), False, (town, place, guest, hold))
        self.assertGreater(came, 150)

    def test_free_places_and_least_enough(self):
        seen = set()
        for city in cities(813, 70):
            places = range(len(city))
            for hold in holds_of(city):
                if towns.lets(city, hold):
                    self.assert_raises("Unfit", {}, free_places, city, hold)
                    self.assert_raises("Unfit", {}, least_enough, city, hold)
                    continue
                free = {some: not towns.lets(towns.freed(city, some, hold[1:2]), hold) for some in ruled.subsets(places)}
                want = tuple(place for place in places if free[(place,)])
                self.assert_same(free_places(city, hold), want, (city, hold))
                enough = [some for some in free if free[tuple(place for place in places if place not in some)]]
                want = ruled.least(enough)
                seen |= {(len(want), len(some)) for some in want}
                self.assert_same(least_enough(city, hold), want, (city, hold))
        self.assertLessEqual({(1, 1), (1, 2), (2, 1)}, seen)

    def test_least_enough_of_three(self):
        edge = (("ann",), ("box",))
        calm = (edge, ruled.closure(edge, ()))
        far = ((("cy",), ("cup",)), ruled.closure((("cy",), ("cup",)), ()))
        hold = ("ann", "own", "box")
        self.assert_same(least_enough((calm, calm, far), hold), [(0, 1)])
        self.assert_same(free_places((calm, calm, far), hold), (2,))
        self.assert_same(least_enough((calm, far), ("ann", "own", "cup")), [()])
        self.assert_same(free_places((calm, far), ("ann", "own", "cup")), (0, 1))


class Keepers(Rules, unittest.TestCase):
    def test_keepers_for(self):
        some = none = 0
        rng = random.Random(821)
        for city in cities(821, 60):
            edge = towns.edge_of_city(city)
            comes = tuple(line[1:] for line in sorted(towns.told(city)) if line[0] == "home")
            for hold in towns.some_holds(rng, edge, 3, ("own", "take")) + comes[:3]:
                town = keepers_for(city, hold)
                if not towns.lets(city, hold):
                    none += 1
                    self.assert_same(town, None, (city, hold))
                    continue
                some += 1
                self.assertTrue(towns.about_ok(city, (), (hold,), town), (city, hold, town))
                self.assertIs(is_keepers_for(city, hold, town), True)
        self.assertGreater(min(some, none), 40)

    def test_is_keepers_for(self):
        rng = random.Random(822)
        good = 0
        for town in towns.drawn(822, 40, 3, (1, 2, 3)):
            promises = towns.promised(rng, town)
            edge = towns.edge_of_all(town)
            other = tuple(towns.random_house(rng, *houses.edge_of(house), ("z" + "abc"[place],), 4)
                          for place, house in enumerate(town))
            mixed = tuple(rng.choice(pair) for pair in zip(town, other))
            bare = tuple(towns.bare(house) for house in town)
            for hold in towns.some_holds(rng, edge, 3) + tuple(sorted(towns.comes(town)))[::5]:
                for thing in (town, other, mixed, bare, town[1:], town[::-1], list(town), town + bare[:1]):
                    want = towns.about_ok(promises, (), (hold,), thing)
                    good += want
                    self.assert_same(is_keepers_for(promises, hold, thing), want, (promises, hold, thing))
        self.assertGreater(good, 30)

    def test_is_keepers_for_at_values_of_all_kinds(self):
        edge = (("ann",), ("box",))
        promises = ((edge, ruled.closure(edge, (("home", "ann", "own", "box"),))),)
        town = (((("ann",), ("box",), (("ann", "own", "box"),)), ("ann", "box")),)
        for hold in (("ann", "own", "box"), ("ann", "take", "box")):
            for thing in list(ODD) + list(near_misses(town)) + [town]:
                want = towns.about_ok(promises, (), (hold,), thing)
                self.assert_same(is_keepers_for(promises, hold, thing), want, thing)
        self.assertIs(is_keepers_for(promises, ("ann", "own", "box"), town), True)


class Shields(Rules, unittest.TestCase):
    def shield_ok(self, promises, hold, thing):
        edge = towns.edge_of_city(promises)
        if not ruled.closed_ok(edge, thing):
            return False
        return all(set(lines) <= set(thing) for _, lines in promises) and ("home",) + hold not in thing

    def test_shield(self):
        rng = random.Random(831)
        seen = set()
        for city in cities(831, 40):
            edge = towns.edge_of_city(city)
            whole = oracle.ascending(towns.told(city))
            for hold in towns.some_holds(rng, edge, 4):
                told = shield(city, hold)
                if towns.lets(city, hold):
                    self.assert_same(told, None, (city, hold))
                else:
                    self.assertTrue(self.shield_ok(city, hold, told), (city, hold, told))
                    self.assertIs(is_shield(city, hold, told), True)
                more = ruled.closure(edge, oracle.ascending(whole + ruled.some_lines(rng, edge, 1)))
                less = whole[:-1] + ruled.some_lines(rng, edge, 1)
                for thing in (whole, more, less, (), ruled.closure(edge, ()), towns.full(edge, ("own",))[1], list(whole)):
                    want = self.shield_ok(city, hold, thing)
                    seen.add((want, thing is more, towns.lets(city, hold)))
                    self.assert_same(is_shield(city, hold, thing), want, (city, hold, thing))
                    self.assertFalse(want and towns.lets(city, hold))
        self.assertLessEqual({(True, True, False), (True, False, False), (False, False, True)}, seen)

    def test_is_shield_at_values_of_all_kinds(self):
        edge = (("ann",), ("box",))
        promises, hold = ((edge, ruled.closure(edge, (("home", "ann", "take", "box"),))),), ("ann", "own", "box")
        for thing in list(ODD) + list(near_misses(promises[0][1])) + [promises[0][1], promises]:
            self.assert_same(is_shield(promises, hold, thing), self.shield_ok(promises, hold, thing), thing)
        self.assertIs(is_shield(promises, hold, promises[0][1]), True)


class More(Rules, unittest.TestCase):
    def with_more(self, city, more):
        plots = []
        for place, (edge, lines) in enumerate(city):
            told = tuple(line for number, line in more if number == place)
            plots.append((edge, ruled.closure(edge, oracle.ascending(lines + told))))
        return tuple(plots)

    def test_let_more(self):
        rng = random.Random(841)
        for city in cities(841, 60) + [()]:
            more = random_more(rng, city, rng.randint(0, 6))
            told = let_more(city, more)
            self.assert_same(told, self.with_more(city, more), (city, more))
            self.assertIs(is_city(told), True)
            self.assert_same(let_more(city, ()), city)

    def test_spare_lines(self):
        rng = random.Random(842)
        sizes = set()
        for city in cities(842, 30, 2, 2):
            for hold in towns.some_holds(rng, towns.edge_of_city(city), 3):
                for number, (edge, lines) in enumerate(city):
                    if towns.lets(city, hold):
                        self.assert_raises("Unfit", {}, spare_lines, city, number, hold)
                        continue
                    rest = [line for line in towns.full(edge, hold[1:2])[1] if line not in lines]
                    want = tuple(line for line in rest if not towns.lets(self.with_more(city, ((number, line),)), hold))
                    sizes.add(len(want) < len(rest))
                    self.assert_same(spare_lines(city, number, hold), want, (city, number, hold))
        self.assertEqual(sizes, {True, False})

    def test_clashes(self):
        rng = random.Random(843)
        seen = set()
        for city in cities(843, 60, 3, 2):
            more = random_more(rng, city, rng.randint(0, 6))
            lots = {some: self.with_more(city, [more[place] for place in some]) for some in ruled.subsets(range(len(more)))}
            opened = {line[1:] for line in towns.told(lots[tuple(range(len(more)))]) if line[0] == "home"}
            for hold in oracle.ascending(rng.sample(holds_of(city), 2) + rng.sample(sorted(opened), min(4, len(opened)))):
                if towns.lets(city, hold):
                    self.assert_raises("Unfit", {}, least_clashes, city, more, hold)
                    self.assert_raises("Unfit", {}, greatest_more, city, more, hold)
                    continue
                clashing = [some for some, plots in lots.items() if towns.lets(plots, hold)]
                calm = [some for some in lots if some not in clashing]
                clashes = ruled.least(clashing)
                greatest = sorted(some for some in calm if not any(set(some) < set(other) for other in calm))
                seen |= {len(some) for some in clashes}
                self.assert_same(least_clashes(city, more, hold), clashes, (city, more, hold))
                self.assert_same(greatest_more(city, more, hold), greatest, (city, more, hold))
                for some in list(lots)[::5]:
                    self.assertEqual(barred(lots[some], hold), not any(set(clash) <= set(some) for clash in clashes))
                for some in greatest:
                    self.assertTrue(all(set(clash) - set(some) for clash in clashes))
        self.assertLessEqual({1, 2}, seen)


class Errors(Rules, unittest.TestCase):
    def test_no_member_of_hold(self):
        for function, more in ((barred, ()), (free_places, ()), (least_enough, ()), (keepers_for, ()), (shield, ()),
                               (is_keepers_for, (None,)), (is_shield, (None,))):
            self.assert_raises("NoMember", {"name": "eve"}, function, CALM, ("eve", "own", "zed"), *more)
            self.assert_raises("NoMember", {"name": "zed"}, function, CALM, ("ann", "own", "zed"), *more)
            self.assert_raises("NoMember", {"name": "x"}, function, (), ("x", "own", "y"), *more)

    def test_unfit_if_not_barred(self):
        for function in (free_places, least_enough):
            self.assert_raises("Unfit", {}, function, CITY, OWN)
            self.assert_raises("NoMember", {"name": "x"}, function, CITY, ("ann", "own", "x"))
        self.assert_raises("Unfit", {}, spare_lines, CITY, 0, OWN)
        for function in (least_clashes, greatest_more):
            self.assert_raises("Unfit", {}, function, CITY, (), OWN)

    def test_barred_but_in_order(self):
        self.assert_raises("NoNumber", {"number": -1}, barred_but, CALM, (-1, 7), ("eve", "own", "zed"))
        self.assert_raises("NoNumber", {"number": 7}, barred_but, CALM, (0, 7), ("eve", "own", "zed"))
        self.assert_raises("NoMember", {"name": "eve"}, barred_but, CALM, (0, 2), ("eve", "own", "zed"))
        self.assert_raises("NoNumber", {"number": 3}, freed, CALM, (0, 3), "own")
        self.assert_raises("NoNumber", {"number": -10 ** 9}, freed, CALM, (-10 ** 9, 3), "own")

    def test_spare_lines_in_order(self):
        self.assert_raises("NoNumber", {"number": 3}, spare_lines, CITY, 3, ("eve", "own", "zed"))
        self.assert_raises("NoNumber", {"number": -1}, spare_lines, CITY, -1, OWN)
        self.assert_raises("NoMember", {"name": "eve"}, spare_lines, CITY, 0, ("eve", "own", "zed"))
        self.assert_raises("NoMember", {"name": "zed"}, spare_lines, CITY, 0, ("ann", "own", "zed"))

    def test_more_in_order(self):
        line, strange = ("home", "cup", "own", "dan"), ("home", "ann", "own", "eve")
        bad = ((0, strange), (1, ("takes", "box", "zed")), (3, line), (4, line))
        for function, hold in ((let_more, ()), (least_clashes, (("sue", "own", "zed"),)), (greatest_more, (OWN,))):
            self.assert_raises("NoNumber", {"number": 3}, function, CITY, bad, *hold)
            self.assert_raises("NoNumber", {"number": -4}, function, CITY, ((-4, line),) + bad, *hold)
            self.assert_raises("NoMember", {"name": "eve"}, function, CITY, bad[:2], *hold)
            self.assert_raises("NoMember", {"name": "zed"}, function, CITY, bad[1:2], *hold)
            # A NAME of another plot is none of this one.
            self.assert_raises("NoMember", {"name": "cup"}, function, CITY, ((0, line),), *hold)
        for function in (least_clashes, greatest_more):
            self.assert_raises("NoMember", {"name": "sue"}, function, CITY, ((2, line),), ("sue", "own", "zed"))
            self.assert_raises("NoMember", {"name": "zed"}, function, CITY, (), ("ann", "own", "zed"))


class Bounds(Rules, unittest.TestCase):
    def city(self, rng, names, plots=4, lines=6):
        people, things = names[:len(names) // 2], names[len(names) // 2:]
        rights = ("hand", "own", "see", "take", "use")
        return towns.random_city(rng, plots, 4, lines, people, things, rights)

    def test_six_names_four_plots(self):
        rng = random.Random(851)
        for _ in range(6):
            city = self.city(rng, ("a", "c", "f", "m", "n", "o"))
            for hold in rng.sample(holds_of(city, ("own", "see", "take")), 4):
                want = not towns.lets(city, hold)
                self.assert_same(barred(city, hold), want)
                for some in ((0,), (1, 2), (0, 1, 2, 3)):
                    free = towns.freed(city, some, hold[1:2])
                    self.assert_same(barred_but(city, some, hold), not towns.lets(free, hold))
                town = keepers_for(city, hold)
                self.assertEqual(town is None, want)
                if not want:
                    self.assertIs(is_keepers_for(city, hold, town), True)
                    self.assert_same(kept_places(town, city), (0, 1, 2, 3))
                    self.assertIn(hold, towns.comes(town))

    def test_four_names_four_plots(self):
        rng = random.Random(852)
        for _ in range(4):
            city = self.city(rng, ("a", "c", "m", "n"), 4, 3)
            more = random_more(rng, city, 6)
            for hold in [hold for hold in holds_of(city, ("own", "take")) if not towns.lets(city, hold)][:2]:
                enough = [some for some in ruled.subsets(range(4)) if not towns.lets(towns.freed(
                    city, [place for place in range(4) if place not in some], hold[1:2]), hold)]
                self.assert_same(least_enough(city, hold), ruled.least(enough))
                clashes = [some for some in ruled.subsets(range(6)) if towns.lets(
                    city, hold, [more[place][1] for place in some])]
                self.assert_same(least_clashes(city, more, hold), ruled.least(clashes))
                for number, (edge, lines) in enumerate(city):
                    if len(edge[0] + edge[1]) <= 2:
                        rest = [line for line in towns.full(edge, hold[1:2])[1] if line not in lines]
                        want = tuple(line for line in rest if not towns.lets(city, hold, (line,)))
                        self.assert_same(spare_lines(city, number, hold), want)


HOLDS = (OWN, ("dan", "own", "ann"), ("eve", "own", "x"), ("ann", "own", "x"))
MORE = ((1, ("hands", "cup", "box")), (2, ("has", "cup", "own", "dan")), (2, ("home", "cup", "own", "dan")))
MORES = ((), MORE, MORE + ((3, MORE[0][1]),), ((0, MORE[0][1]),))
ODD_FEW = (3, None, True, "box", (), TOWN, list(TOWN), TOWN[:2] + (list(STORE),), CITY, all_that_follow(*CITY[0]),
           tuple(sorted(towns.told(CALM))), sorted(towns.told(CALM)))
CITIES = (CITY, CALM)
WITH_HOLD = [(city, hold) for city in CITIES for hold in HOLDS]
WITH_MORE = [(CALM, more, hold) for more in MORES for hold in HOLDS]
CALLS = (
    (keeps, "house lines", [(STORE, CITY[2][1]), (STORE, CALM[2][1]), (STORE, CITY[0][1])]),
    (kept_places, "houses promises", [(TOWN, CITY), (TOWN, CALM), (TOWN[:2], CITY), ((), ())]),
    (full_plot, "edge rights", [(CITY[0][0], rights) for rights in ((), ("own", "see"))]),
    (freed, "promises some right", [(CALM, some, "own") for some in ((), (0, 2), (0, 3))]),
    (barred, "promises hold", WITH_HOLD),
    (barred_but, "promises some hold", [(CALM, some, hold) for some in ((), (0, 1), (2,), (0, 3)) for hold in HOLDS]),
    (free_places, "promises hold", WITH_HOLD),
    (least_enough, "promises hold", WITH_HOLD),
    (keepers_for, "promises hold", WITH_HOLD),
    (is_keepers_for, "promises hold thing", [call + (thing,) for call in WITH_HOLD for thing in ODD_FEW]),
    (is_shield, "promises hold thing", [call + (thing,) for call in WITH_HOLD for thing in ODD_FEW]),
    (shield, "promises hold", WITH_HOLD),
    (let_more, "promises more", [(CALM, more) for more in MORES]),
    (spare_lines, "promises number hold", [(CALM, number, hold) for number in (0, 2, 3, -1) for hold in HOLDS]),
    (least_clashes, "promises more hold", WITH_MORE),
    (greatest_more, "promises more hold", WITH_MORE),
)


class General(Rules, unittest.TestCase):
    def test_rules_of_all_calls(self):
        self.check_calls(CALLS)


if __name__ == "__main__":
    unittest.main()
