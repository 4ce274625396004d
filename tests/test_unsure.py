"""[13], with [2] and [3]: HOUSES not wholly known, and CITIES between."""

import itertools
import random
import unittest

import oracle
import ruled
import towns
from rules import ODD, Rules, near_misses
from touchrights.unsure import (
    deciding_lines, fits_between, is_letting_city, least_if, least_lines_if, least_unless, letting_city, maybe_lets,
    surely_lets, surely_more, told_more, unsure_places,
)

NEAR, FAR = (("ann",), ("box",)), (("cy",), ("box",))
HANDS = ruled.closure(NEAR, (("home", "ann", "hand", "box"),))
TAKES = ruled.closure(FAR, (("home", "cy", "take", "box"),))
OPENED = ruled.closure(NEAR, (("home", "ann", "hand", "box"), ("home", "ann", "open", "box")))
CITY, PROMISES = ((NEAR, HANDS), (FAR, ruled.closure(FAR, ()))), ((NEAR, OPENED), (FAR, TAKES))
GOAL = ("cy", "open", "box")
TAKE_LINE = ("home", "cy", "take", "box")


def between(seed, many, most=3, lines=2, more=2, plots=(1, 2, 3), things=("b", "d")):
    """Pairs of CITIES, each plot of the one lying in that of the other."""
    rng = random.Random(seed)
    pairs = []
    for number in range(many):
        city = towns.random_city(rng, plots[number % len(plots)], most, lines, towns.PEOPLE, things)
        plots_more = []
        for edge, sure in city:
            added = ruled.some_lines(rng, edge, rng.randint(0, more))
            plots_more.append((edge, ruled.closure(edge, oracle.ascending(sure + added))))
        pairs.append((city, tuple(plots_more)))
    return pairs


def few_unsure(seed, many, most_lines):
    """Such pairs with at most so many LINES that are not sure."""
    pairs = between(seed, 6 * many, 2, 2, 1)
    return [pair for pair in pairs if 0 < len(unsure_lines(*pair)) <= most_lines][:many]


def unsure_lines(city, promises):
    return [(number, line) for number, ((_, sure), (_, lines)) in enumerate(zip(city, promises))
            for line in lines if line not in sure]


def mixed(one, other, some):
    return tuple(other[place] if place in some else one[place] for place in range(len(one)))


def holds_of(city, rights=("none", "own", "take")):
    return towns.all_holds(towns.edge_of_city(city), rights)


def asked(rng, city, promises, many):
    """HOLDS that maybe come first, and others."""
    homes = [{line[1:] for line in towns.told(plots) if line[0] == "home"} for plots in (city, promises)]
    late = sorted(homes[1] - homes[0])
    lots = rng.sample(late, min(many, len(late))) + rng.sample(sorted(homes[0]), min(1, len(homes[0])))
    return oracle.ascending(lots + list(towns.some_holds(rng, towns.edge_of_city(city), 1)))


def with_line(city, number, line):
    edge, lines = city[number]
    plot = (edge, ruled.closure(edge, oracle.ascending(lines + (line,))))
    return city[:number] + (plot,) + city[number + 1:]


def lies_between(city, promises, number, lines):
    return set(city[number][1]) <= set(lines) <= set(promises[number][1])


class Between(Rules, unittest.TestCase):
    def test_fits_between(self):
        rng = random.Random(1101)
        seen = {True: 0, False: 0}
        for city, promises in between(1101, 60, 3, 2, 3):
            for number, (edge, sure) in enumerate(city):
                most = promises[number][1]
                some = oracle.ascending(sure + tuple(rng.sample(most, min(len(most), 1))))
                for lines in (sure, most, ruled.closure(edge, some), ruled.closure(edge, ()),
                              ruled.closure(edge, ruled.some_lines(rng, edge, 2)), towns.full(edge, ("own",))[1]):
                    want = lies_between(city, promises, number, lines)
                    seen[want] += 1
                    self.assert_same(fits_between(city, promises, number, lines), want, (city, promises, number, lines))
        self.assertGreater(min(seen.values()), 80)

    def test_unsure_places_and_what_is_let(self):
        sizes = set()
        for city, promises in between(1102, 70) + [((), ())]:
            want = tuple(place for place in range(len(city)) if city[place] != promises[place])
            sizes.add(len(want))
            self.assert_same(unsure_places(city, promises), want)
            for hold in holds_of(city):
                self.assert_same(surely_lets(city, promises, hold), towns.lets(city, hold), (city, hold))
                self.assert_same(maybe_lets(city, promises, hold), towns.lets(promises, hold), (promises, hold))
        self.assertLessEqual({0, 1, 2}, sizes)

    def test_all_cities_between(self):
        """What comes in all, in some CITIES between, each of which HOUSES stand for."""
        many = 0
        for city, promises in few_unsure(1103, 30, 5):
            choices = []
            for (edge, sure), (_, lines) in zip(city, promises):
                rest = [line for line in lines if line not in sure]
                lots = [oracle.ascending(sure + some) for some in ruled.subsets(rest)]
                choices.append([(edge, lot) for lot in lots if ruled.closed_ok(edge, lot)])
            cities = list(itertools.product(*choices))
            many += len(cities)
            for hold in holds_of(city, ("own", "take")):
                told = [towns.lets(plots, hold) for plots in cities]
                self.assert_same(surely_lets(city, promises, hold), all(told), (city, promises, hold))
                self.assert_same(maybe_lets(city, promises, hold), any(told), (city, promises, hold))
        self.assertGreater(many, 60)

    def test_houses_between(self):
        rng = random.Random(1104)
        for town in towns.drawn(1104, 60, 3, (1, 2, 3)):
            letters = towns.city_of(town)
            promises = towns.promised(rng, town)
            city = tuple((edge, ruled.closure(edge, oracle.ascending(
                rng.sample(lines, min(2, len(lines)))))) for edge, lines in letters)
            told = towns.comes(town)
            for number, (_, lines) in enumerate(letters):
                self.assertIs(fits_between(city, promises, number, lines), True)
            for hold in holds_of(city, ("hand", "own", "take")):
                if hold in told:
                    self.assertIs(maybe_lets(city, promises, hold), True, (town, city, promises))
                else:
                    self.assertIs(surely_lets(city, promises, hold), False, (town, city, promises))


class Told(Rules, unittest.TestCase):
    def test_told_more(self):
        rng = random.Random(1111)
        for city, promises in between(1111, 60):
            for number, (edge, sure) in enumerate(city):
                lines = promises[number][1]
                for line in rng.sample(lines, min(3, len(lines))):
                    want = with_line(city, number, line)
                    self.assert_same(told_more(city, promises, number, line), want, (city, promises, number, line))
                for line in ruled.some_lines(rng, edge, 3) + (("home", "eve", "own", "zed"), ("both", "", "")):
                    if line not in lines:
                        self.assert_raises("Unfit", {}, told_more, city, promises, number, line)

    def test_told_until_nothing_is_unsure(self):
        rng = random.Random(1112)
        steps = 0
        for city, promises in between(1112, 40, 3, 1, 4):
            holds = asked(rng, city, promises, 3)
            while unsure_places(city, promises):
                number, line = rng.choice(unsure_lines(city, promises))
                told = told_more(city, promises, number, line)
                steps += 1
                self.assertIn(number, unsure_places(city, promises))
                self.assertIn(line, told[number][1])
                for place, (_, lines) in enumerate(told):
                    self.assertIs(fits_between(city, promises, place, lines), True)
                for hold in holds:
                    self.assert_same(surely_lets(told, promises, hold), towns.lets(told, hold))
                    if surely_lets(city, promises, hold):
                        self.assertIs(surely_lets(told, promises, hold), True)
                city = told
            self.assertEqual(city, promises)
            for hold in holds:
                self.assertEqual(surely_lets(city, promises, hold), maybe_lets(city, promises, hold))
                self.assert_same(deciding_lines(city, promises, hold), [])
        self.assertGreater(steps, 80)

    def test_deciding_lines(self):
        rng = random.Random(1113)
        sizes = set()
        for city, promises in between(1113, 90, 3, 3, 3):
            pairs = unsure_lines(city, promises)
            if len(pairs) > 40:
                continue
            for hold in asked(rng, city, promises, 3):
                want = [pair for pair in pairs if towns.lets(with_line(city, *pair), hold)]
                want = [] if towns.lets(city, hold) else sorted(want)
                sizes.add(min(len(want), 3))
                self.assert_same(deciding_lines(city, promises, hold), want, (city, promises, hold))
        self.assertEqual(sizes, {0, 1, 2, 3})

    def test_least_lines_if(self):
        rng = random.Random(1114)
        seen = set()
        for city, promises in few_unsure(1114, 60, 6):
            pairs = unsure_lines(city, promises)
            for hold in asked(rng, city, promises, 3):
                lots = []
                for some in ruled.subsets(pairs):
                    told = city
                    for number, line in some:
                        told = with_line(told, number, line)
                    lots += [some] if towns.lets(told, hold) else []
                want = ruled.least(lots)
                seen |= {(min(len(want), 2), len(some)) for some in want} if want else {None}
                self.assert_same(least_lines_if(city, promises, hold), want, (city, promises, hold))
        self.assertLessEqual({None, (1, 0), (1, 1), (2, 1)}, seen)
        told = told_more(CITY, PROMISES, 1, TAKE_LINE)
        lots = least_lines_if(told, PROMISES, GOAL)
        self.assert_same(lots, [((0, line),) for line in OPENED if line not in HANDS])


class Least(Rules, unittest.TestCase):
    def test_least_if_and_unless(self):
        rng = random.Random(1121)
        seen = set()
        for city, promises in between(1121, 150, 3, 2, 3, (1, 2, 3, 3)):
            places = range(len(city))
            for hold in asked(rng, city, promises, 4):
                lots = ruled.subsets(places)
                ifs = ruled.least([some for some in lots if towns.lets(mixed(city, promises, some), hold)])
                unless = ruled.least([some for some in lots if not towns.lets(mixed(promises, city, some), hold)])
                seen.add((len(ifs), len(unless)))
                self.assert_same(least_if(city, promises, hold), ifs, (city, promises, hold))
                self.assert_same(least_unless(city, promises, hold), unless, (city, promises, hold))
                self.assertTrue(all(set(one) & set(other) for one in ifs for other in unless))
                for ones, others in ((ifs, unless), (unless, ifs)):
                    hit = [some for some in lots if all(set(some) & set(other) for other in others)]
                    self.assertEqual(ruled.least(hit), ones)
        self.assertLessEqual({(0, 1), (1, 0), (1, 1), (1, 2), (2, 1)}, seen)

    def test_surely_more(self):
        rng = random.Random(1122)
        seen = set()
        for city, promises in between(1122, 120, 3, 2, 3):
            for many in (0, 1, 2, 4):
                sights = oracle.ascending(rng.sample(asked(rng, city, promises, 4), 1) if many == 1 else
                                          asked(rng, city, promises, many)[:many])
                if not towns.lets_all(promises, sights):
                    self.assert_raises("Unfit", {}, surely_more, city, promises, sights)
                    continue
                want = tuple(place for place in range(len(city)) if not towns.lets_all(
                    mixed(promises, city, (place,)), sights))
                seen.add(len(want))
                self.assert_same(surely_more(city, promises, sights), want, (city, promises, sights))
        self.assertLessEqual({0, 1, 2}, seen)


class Letting(Rules, unittest.TestCase):
    def letting_ok(self, city, promises, sights, some, thing):
        if not towns.city_ok(thing) or [edge for edge, _ in thing] != [edge for edge, _ in city]:
            return False
        for place, (_, lines) in enumerate(thing):
            if not lies_between(city, promises, place, lines) or (place not in some and lines != city[place][1]):
                return False
        return towns.lets_all(thing, sights)

    def test_letting_city(self):
        rng = random.Random(1131)
        seen = {True: 0, False: 0}
        for city, promises in between(1131, 80, 3, 2, 3):
            sights = asked(rng, city, promises, 2)[:2]
            for some in ruled.subsets(range(len(city))):
                told = letting_city(city, promises, sights, some)
                want = towns.lets_all(mixed(city, promises, some), sights)
                seen[want] += 1
                if not want:
                    self.assert_same(told, None, (city, promises, sights, some))
                    continue
                self.assertTrue(self.letting_ok(city, promises, sights, some, told), (city, promises, sights, some))
                self.assertIs(is_letting_city(city, promises, sights, some, told), True)
        self.assertGreater(min(seen.values()), 60)

    def test_is_letting_city(self):
        rng = random.Random(1132)
        good = 0
        for city, promises in between(1132, 60, 3, 2, 3):
            sights = asked(rng, city, promises, 2)[:rng.randint(0, 2)]
            things = [city, promises, promises[1:], city[::-1], list(city), promises + promises[:1]]
            for number, line in rng.sample(unsure_lines(city, promises), min(3, len(unsure_lines(city, promises)))):
                things.append(with_line(city, number, line))
            for number, (edge, _) in enumerate(city):
                things += [with_line(promises, number, line) for line in ruled.some_lines(rng, edge, 1)]
                things.append(city[:number] + ((edge, ruled.closure(edge, ())),) + city[number + 1:])
            for some in ruled.subsets(range(len(city))):
                for thing in things + [mixed(city, promises, some)]:
                    want = self.letting_ok(city, promises, sights, some, thing)
                    good += want
                    self.assert_same(is_letting_city(city, promises, sights, some, thing), want, (city, promises, thing))
        self.assertGreater(good, 200)

    def test_is_letting_city_at_values_of_all_kinds(self):
        edge = ((), ("box",))
        city = ((edge, ruled.closure(edge, ())),)
        promises = ((edge, ruled.closure(edge, (("home", "box", "own", "box"),))),)
        for sights, some in (((), ()), ((), (0,)), ((("box", "own", "box"),), (0,))):
            for thing in list(ODD) + list(near_misses(promises)) + list(near_misses(city)) + [city, promises]:
                want = self.letting_ok(city, promises, sights, some, thing)
                self.assert_same(is_letting_city(city, promises, sights, some, thing), want, thing)

    def test_none_between_lets_more(self):
        """Where none is told, no CITY between, with plots of city elsewhere, lets all sights."""
        rng = random.Random(1133)
        for city, promises in few_unsure(1133, 30, 5):
            sights = asked(rng, city, promises, 2)[:2]
            for some in ruled.subsets(range(len(city))):
                found = False
                for lot in ruled.subsets([pair for pair in unsure_lines(city, promises) if pair[0] in some]):
                    told = city
                    for number, line in lot:
                        told = with_line(told, number, line)
                    found |= towns.lets_all(told, sights)
                self.assertEqual(letting_city(city, promises, sights, some) is not None, found)


class Errors(Rules, unittest.TestCase):
    def bad_pairs(self):
        """Pairs that do not lie so: LINES that are not promised, other EDGES, other numbers of plots."""
        return (
            (PROMISES, CITY), (CITY, PROMISES[:1]), (CITY[:1], PROMISES), (CITY, PROMISES[::-1]),
            (CITY, ((NEAR, OPENED), (NEAR, OPENED))), ((), PROMISES),
        )

    def calls(self, hold, sights, number, some):
        """All functions, with what comes behind city and promises, and whether they look at numbers, at NAMES."""
        return (
            (fits_between, (number, HANDS), True, False), (unsure_places, (), False, False),
            (surely_lets, (hold,), False, True), (maybe_lets, (hold,), False, True),
            (told_more, (number, TAKE_LINE), True, False), (deciding_lines, (hold,), False, True),
            (least_if, (hold,), False, True), (least_unless, (hold,), False, True), (least_lines_if, (hold,), False, True),
            (surely_more, (sights,), False, True), (letting_city, (sights, some), True, True),
            (is_letting_city, (sights, some, None), True, True),
        )

    def test_errors_in_order(self):
        eve, zed = ("eve", "own", "zed"), ("box", "own", "zed")
        for city, promises in self.bad_pairs():
            for function, more, numbers, _ in self.calls(eve, (eve, zed), 5, (5, 7)):
                if numbers:
                    self.assert_raises("NoNumber", {"number": 5}, function, city, promises, *more)
            for function, more, _, names in self.calls(eve, (eve, zed), 0, ()):
                if names:
                    self.assert_raises("NoMember", {"name": "eve"}, function, city, promises, *more)
        for city, promises in self.bad_pairs()[:5]:
            for function, more, _, names in self.calls(zed, (zed, eve), 0, (0,)):
                if names:
                    self.assert_raises("NoMember", {"name": "zed"}, function, city, promises, *more)
            good = ("box", "own", "box")
            for function, more, _, _ in self.calls(good, (good,), 0, (0,)):
                self.assert_raises("Unfit", {}, function, city, promises, *more)
        self.assert_raises("Unfit", {}, unsure_places, (), PROMISES)

    def test_places_and_names_are_those_of_city(self):
        self.assert_raises("NoNumber", {"number": 1}, fits_between, CITY[:1], PROMISES, 1, HANDS)
        self.assert_raises("NoMember", {"name": "cy"}, surely_lets, CITY[:1], PROMISES, GOAL)
        self.assert_raises("Unfit", {}, fits_between, CITY, PROMISES[:1], 1, HANDS)
        self.assert_raises("Unfit", {}, surely_lets, CITY, PROMISES[:1], GOAL)

    def test_numbers(self):
        for number in (-1, 2, 10 ** 9, -10 ** 9):
            self.assert_raises("NoNumber", {"number": number}, fits_between, CITY, PROMISES, number, HANDS)
            self.assert_raises("NoNumber", {"number": number}, told_more, CITY, PROMISES, number, ("home", "eve", "x", "y"))
            some = (number, 5) if number < 0 else (0, number)
            self.assert_raises("NoNumber", {"number": number}, letting_city, CITY, PROMISES, (("eve", "own", "y"),), some)
            self.assert_raises("NoNumber", {"number": number}, is_letting_city, CITY, PROMISES, (), some, CITY)

    def test_told_more_unfit(self):
        for line in (("home", "eve", "own", "zed"), ("takes", "", ""), ("home", "ann", "hand", "box"), ("both", "box", "ann")):
            self.assert_raises("Unfit", {}, told_more, CITY, PROMISES, 1, line)
        self.assert_same(told_more(CITY, PROMISES, 0, ("home", "ann", "hand", "box")), CITY)

    def test_surely_more_unfit(self):
        self.assert_raises("Unfit", {}, surely_more, CITY, PROMISES, (("box", "none", "box"),))
        self.assert_raises("NoMember", {"name": "eve"}, surely_more, CITY, PROMISES, (("box", "none", "box"), ("eve", "a", "b")))
        self.assert_same(surely_more(CITY, PROMISES, ()), ())


class Bounds(Rules, unittest.TestCase):
    def test_four_plots_six_names(self):
        rng = random.Random(1141)
        rights = ("hand", "open", "own", "see", "take")
        for _ in range(4):
            city = towns.random_city(rng, 4, 4, 2, ("a", "c", "f"), ("m", "n", "o"), rights)
            promises = tuple((edge, ruled.closure(edge, oracle.ascending(
                lines + ruled.some_lines(rng, edge, 4, rights)))) for edge, lines in city)
            sights = asked(rng, city, promises, 6)
            for hold in sights:
                lots = ruled.subsets(range(4))
                ifs = [some for some in lots if towns.lets(mixed(city, promises, some), hold)]
                unless = [some for some in lots if not towns.lets(mixed(promises, city, some), hold)]
                self.assert_same(least_if(city, promises, hold), ruled.least(ifs))
                self.assert_same(least_unless(city, promises, hold), ruled.least(unless))
                self.assert_same(surely_lets(city, promises, hold), towns.lets(city, hold))
                self.assert_same(maybe_lets(city, promises, hold), towns.lets(promises, hold))
            sights = oracle.ascending(hold for hold in sights if towns.lets(promises, hold))[:6]
            want = tuple(place for place in range(4) if not towns.lets_all(mixed(promises, city, (place,)), sights))
            self.assert_same(surely_more(city, promises, sights), want)
            told = letting_city(city, promises, sights, (0, 1, 2, 3))
            self.assertIs(is_letting_city(city, promises, sights, (0, 1, 2, 3), told), True)


PAIRS = ((CITY, PROMISES), (PROMISES, CITY), (CITY, PROMISES[:1]))
HOLDS = (GOAL, ("ann", "hand", "box"), ("eve", "own", "x"), ("box", "own", "x"))
SIGHTS = ((), (GOAL,), (GOAL, HOLDS[2]), (("box", "none", "box"),))
SOMES = ((), (1,), (0, 1), (0, 2))
ODD_FEW = (3, None, True, "box", (), CITY, list(CITY), PROMISES, PROMISES[:1] + (list(PROMISES[1]),))
WITH_HOLD = [pair + (hold,) for pair in PAIRS for hold in HOLDS]
WITH_SOME = [pair + (sights, some) for pair in PAIRS for sights in SIGHTS for some in SOMES]
CALLS = (
    (fits_between, "city promises number lines", [pair + (number, lines) for pair in PAIRS for number, lines in (
        (0, HANDS), (1, TAKES), (0, OPENED), (2, TAKES), (-1, TAKES))]),
    (unsure_places, "city promises", PAIRS),
    (surely_lets, "city promises hold", WITH_HOLD),
    (maybe_lets, "city promises hold", WITH_HOLD),
    (told_more, "city promises number line", [pair + (number, line) for pair in PAIRS for number in (0, 1, 2) for line in (
        TAKE_LINE, ("home", "ann", "open", "box"), ("home", "eve", "own", "x"))]),
    (deciding_lines, "city promises hold", WITH_HOLD),
    (least_if, "city promises hold", WITH_HOLD),
    (least_unless, "city promises hold", WITH_HOLD),
    (least_lines_if, "city promises hold", [
        (told_more(CITY, PROMISES, 1, TAKE_LINE), PROMISES, hold) for hold in HOLDS] + [(PROMISES, CITY, GOAL)]),
    (surely_more, "city promises sights", [pair + (sights,) for pair in PAIRS for sights in SIGHTS]),
    (letting_city, "city promises sights some", WITH_SOME),
    (is_letting_city, "city promises sights some thing", [call + (thing,) for call in WITH_SOME for thing in ODD_FEW]),
)


class General(Rules, unittest.TestCase):
    def test_rules_of_all_calls(self):
        self.check_calls(CALLS)


if __name__ == "__main__":
    unittest.main()
