"""[9], with [2] and [3]: CITIES, held against HOUSES put beside one another."""

import itertools
import random
import unittest

import houses
import oracle
import ruled
import towns
from rules import ODD, Rules, near_misses
from touchrights.cities import (
    all_lines, brings_it, changed_for, city_edge, city_holds, city_letter, city_lets, city_of, cut_out, emptied,
    fewest_places, houses_for, idle_places, is_city, is_houses_for, joined_plots, needed_places, neighbours, surroundings,
)
from touchrights.follows import all_that_follow, is_closed, is_plot
from touchrights.letters import letter_of

FLAT = ((("ann",), ("box",), (("ann", "take", "box"),)), ("ann", "box"))
SHOP = ((("ivy",), ("box", "cup"), (("ivy", "hand", "box"), ("ivy", "take", "cup"))), ("box", "cup"))
STORE = ((("dan",), ("cup",), (("cup", "own", "dan"),)), ("cup", "dan"))
STORE_EDGE = (("dan",), ("cup",))
TOWN = (FLAT, SHOP, STORE)
CITY = city_of(TOWN)
LONE = (((("bob",), ()), (("both", "bob", "bob"), ("hands", "bob", "bob"), ("meets", "bob", "bob"))),)


def borders(rng, edge, many):
    names = towns.names_of(edge)
    return [(), oracle.ascending(names)] + [
        oracle.ascending(rng.sample(names, rng.randint(0, len(names)))) for _ in range(many)
    ]


class Things(Rules, unittest.TestCase):
    def test_is_city(self):
        plot = (((), ("box",)), ruled.closure(((), ("box",)), (("home", "box", "own", "box"),)))
        turned = ((("box",), ()), ruled.closure((("box",), ()), ()))
        for city in ((), (plot,), LONE + (plot,), (plot, plot)):
            self.assertIs(is_city(city), True, city)
            for thing in list(ODD) + list(near_misses(city)) + [city + (turned,), list(city)]:
                self.assert_same(is_city(thing), towns.city_ok(thing), thing)
        self.assertIs(is_city((plot, turned)), False)
        self.assertIs(is_city(LONE + (turned,)), True)
        self.assertIs(is_city(((plot[0], ()),)), True)
        self.assertIs(is_city(((turned[0], ()),)), False)
        self.assertIs(is_city(plot), False)

    def test_is_city_of_many_plots_and_names(self):
        plots = []
        for sign in "abcdefghij":
            edge = (("a" + sign, "b" + sign), ("c" + sign, "zed"))
            plots.append((edge, ruled.closure(edge, ())))
        self.assertIs(is_city(tuple(plots) * 2), True)
        self.assertIs(is_city(tuple(plots) + ((((("zed",), ())), ruled.closure((("zed",), ()), ())),)), False)

    def test_is_houses_for_at_values_of_all_kinds(self):
        one = (((("kay",), ("box",), (("kay", "take", "box"),)), ("box",)),)
        for town in (one, (), (STORE,), (bare_store(),), (bare_store(), bare_store())):
            city = towns.city_of(town)
            for thing in list(ODD) + list(near_misses(town)) + [town, list(town), town + town, town[1:]]:
                self.assert_same(is_houses_for(city, thing), towns.stands_ok(city, thing), thing)
            self.assertIs(is_houses_for(city, town), True)

    def test_is_houses_for_wants_nobody_in_common(self):
        inner = ((("kay",), ("box",), (("kay", "take", "box"),)), ("box",))
        other = ((("kai",), ("box",), (("kai", "take", "box"),)), ("box",))
        city = towns.city_of((inner, other))
        self.assertIs(is_houses_for(city, (inner, other)), True)
        self.assertIs(is_houses_for(city, (inner, inner)), False)
        hidden = (((), ("box", "kay"), ()), ("box",))
        city = towns.city_of((inner, hidden))
        self.assertIs(is_houses_for(city, (inner, hidden)), False)
        near = (((), ("box", "kay"), ()), ("box", "kay"))
        city = towns.city_of((inner, near))
        self.assertIs(is_houses_for(city, (inner, near)), False)
        self.assertIs(is_houses_for(city, (other, near)), True)

    def test_is_houses_for_wants_the_edges(self):
        """LETTERS may be alike where EDGES are not."""
        city = (emptied(STORE_EDGE),)
        for thing, want in (((bare_store(),), True), (((bare_store()[0], ("dan",)),), False),
                            (((((), (), ()), ()),), False), ((((("dan",), (), ()), ("dan",)),), False)):
            self.assertIs(is_houses_for(city, thing), want, thing)
        self.assertIs(is_houses_for((emptied(((), ("cup",))),), ((((), (), ()), ()),)), False)

    def test_is_houses_for_drawn_ones(self):
        good = 0
        towns_drawn = towns.drawn(701, 40)
        for one, other in zip(towns_drawn, towns_drawn[6:]):
            city = towns.city_of(one)
            for thing in (one, other, one[1:], one[::-1], one[:1] + other[1:], tuple(towns.bare(house) for house in one)):
                want = towns.stands_ok(city, thing)
                good += want
                self.assert_same(is_houses_for(city, thing), want, (city, thing))
        self.assertGreater(good, 35)


def bare_store():
    return towns.bare(STORE)


class Towns(Rules, unittest.TestCase):
    """Each CITY held against the HOUSES put beside one another."""

    def test_what_comes(self):
        some = 0
        for town in towns.drawn(711, 60):
            city = city_of(town)
            self.assert_same(city, towns.city_of(town))
            edge = towns.edge_of_all(town)
            self.assert_same(city_edge(city), edge)
            told = towns.comes(town)
            some += len(told)
            self.assert_same(city_holds(city), oracle.ascending(told), town)
            for hold in towns.all_holds(edge):
                self.assert_same(city_lets(city, hold), hold in told, (town, hold))
        self.assertGreater(some, 150)

    def test_letters_at_borders(self):
        rng = random.Random(712)
        for town in towns.drawn(712, 30):
            city = towns.city_of(town)
            edge = towns.edge_of_all(town)
            self.assert_same(all_lines(city), towns.plot_of(town, towns.names_of(edge))[1], town)
            for border in borders(rng, edge, 2):
                self.assert_same(city_letter(city, border), towns.plot_of(town, border), (town, border))

    def test_by_the_rules(self):
        rng = random.Random(713)
        for number in range(80):
            city = towns.random_city(rng, number % 4)
            told = towns.told(city)
            self.assert_same(all_lines(city), oracle.ascending(told), city)
            for border in borders(rng, towns.edge_of_city(city), 2):
                edge, lines = city_letter(city, border)
                self.assert_same(lines, oracle.ascending(line for line in told if line[1] in border and line[-1] in border))
                self.assert_same(oracle.ascending(edge[0] + edge[1]), border)
                self.assertIs(is_plot((edge, lines)), True)

    def test_cut_out(self):
        for town in towns.drawn(714, 20, 4, (1,)) + towns.drawn(715, 10, 3, (2,)):
            house = (towns.together(town), oracle.ascending(towns.names_of(towns.edge_of_all(town))))
            edge, lines = houses.edge_of(house), houses.letter(house)
            for name in house[1]:
                want = towns.plot_of(town, tuple(other for other in house[1] if other != name))
                self.assert_same(cut_out(edge, lines, name), want, (house, name))
                self.assertIs(is_plot(cut_out(edge, lines, name)), True)

    def test_joined_plots(self):
        for town in towns.drawn(716, 18, 3, (2, 3)):
            city = towns.city_of(town)
            for one, other in itertools.permutations(range(len(town)), 2):
                both = (town[one], town[other])
                plot = towns.plot_of(both, towns.names_of(towns.edge_of_all(both)))
                want = tuple(plot if place == one else city[place] for place in range(len(city)) if place != other)
                self.assert_same(joined_plots(city, one, other), want, (town, one, other))
                self.assert_same(all_lines(joined_plots(city, one, other)), all_lines(city))

    def test_in_whatever_order(self):
        rng = random.Random(717)
        for _ in range(30):
            city = towns.random_city(rng, 3)
            names = towns.names_of(towns.edge_of_city(city))
            hidden = rng.sample(names, rng.randint(0, len(names)))
            want = city_letter(city, oracle.ascending(name for name in names if name not in hidden))
            for order in itertools.permutations(range(3)):
                turned = tuple(city[place] for place in order)
                for pair in ((0, 1), (2, 0), (1, 2)):
                    whole = joined_plots(joined_plots(turned, *pair), *rng.choice(((0, 1), (1, 0))))[0]
                    for name in rng.sample(hidden, len(hidden)):
                        whole = cut_out(whole[0], whole[1], name)
                    self.assert_same(whole, want)

    def test_names_hidden_ahead(self):
        """A NAME of one plot alone may as well be hidden ahead of putting HOUSES together."""
        rng = random.Random(718)
        for _ in range(60):
            city = towns.random_city(rng, 3)
            for place, (edge, lines) in enumerate(city):
                others = {name for k, plot in enumerate(city) if k != place for name in towns.names_of(plot[0])}
                for name in towns.names_of(edge):
                    if name not in others:
                        less = city[:place] + (cut_out(edge, lines, name),) + city[place + 1:]
                        border = tuple(other for other in oracle.ascending(
                            towns.names_of(towns.edge_of_city(city))) if other != name)
                        self.assert_same(city_letter(less, border), city_letter(city, border))

    def test_emptied(self):
        for edge in ruled.EDGES:
            self.assert_same(emptied(edge), (edge, ruled.closure(edge, ())))
            self.assert_same(emptied(edge), towns.plot_of((((edge[0], edge[1], ()), ()),), towns.names_of(edge)))


class Around(Rules, unittest.TestCase):
    def common(self, town, number):
        others = town[:number] + town[number + 1:]
        return oracle.ascending(set(town[number][1]) & {name for house in others for name in house[1]})

    def test_neighbours_and_surroundings(self):
        for town in towns.drawn(721, 30, 3, (1, 2, 3)):
            city = towns.city_of(town)
            for number in range(len(town)):
                others = town[:number] + town[number + 1:]
                want = towns.plot_of(others, self.common(town, number))
                self.assert_same(surroundings(city, number), want, (town, number))
                near = tuple(
                    k for k in range(len(town)) if k != number and set(town[k][1]) & set(town[number][1]))
                self.assert_same(neighbours(city, number), near)

    def test_changed_for(self):
        rng = random.Random(722)
        seen = set()
        for town in towns.drawn(722, 30, 3, (2, 3, 3)):
            city = towns.city_of(town)
            for number, house in enumerate(town):
                people, things = houses.edge_of(house)
                inner = ("xz",)
                for other in (towns.bare(house), towns.random_house(rng, people, things, inner, 4)):
                    changed = town[:number] + (other,) + town[number + 1:]
                    want = tuple(place for place in range(len(town)) if place != number and self.around(
                        town, place) != self.around(changed, place))
                    seen.add(len(want))
                    self.assert_same(changed_for(city, number, houses.letter(other)), want, (town, number, other))
                self.assert_same(changed_for(city, number, city[number][1]), ())
        self.assertEqual(seen, {0, 1, 2})

    def around(self, town, number):
        return towns.plot_of(town[:number] + town[number + 1:], self.common(town, number))

    def test_surroundings_are_all_that_matters(self):
        """FOR ALL HOUSES in the place of one the same comes with two lots of others exactly if these are alike around."""
        rng = random.Random(723)
        alike = 0
        edge = (("a",), ("b",))
        front = (edge, ruled.closure(edge, ()))
        # With the bare HOUSE both lots have the same NAMES in common with the one: else their EDGES alone are unlike.
        bare = ((("a",), ("b",), ()), ("a", "b"))
        for _ in range(60):
            lots = [towns.random_town(rng, 2, 2, 4, ("a",), ("b", "d")) + (bare,) for _ in range(2)]
            around = [surroundings((front,) + towns.city_of(lot), 0) for lot in lots]
            same = around[0] == around[1]
            alike += same
            guests = [towns.random_house(rng, ("a",), ("b",), ("xz", "yz"), rng.randint(1, 5)) for _ in range(3)]
            guests += [(houses.question(edge, line)[0], ("a", "b")) for line in houses.all_lines(edge, ruled.RIGHTS)]
            found = True
            for guest in guests:
                members = guest[0][0] + guest[0][1]
                come = [oracle.among(oracle.ever(towns.together((guest,) + lot)), members) for lot in lots]
                found = come[0] == come[1] and found
            self.assertEqual(found, same, (lots, around))
        self.assertGreater(alike, 3)


class Wanted(Rules, unittest.TestCase):
    def test_places(self):
        lengths, unneeded = set(), 0
        for town in towns.drawn(731, 60, 3, (1, 2, 3, 3)):
            city = towns.city_of(town)
            lots = {some: towns.comes(towns.only(town, some)) for some in ruled.subsets(range(len(town)))}
            whole = tuple(range(len(town)))
            for hold in towns.all_holds(towns.edge_of_all(town)):
                for some, come in lots.items():
                    self.assert_same(brings_it(city, some, hold), hold in come, (town, some, hold))
                if hold not in lots[whole]:
                    self.assert_raises("Unfit", {}, needed_places, city, hold)
                    self.assert_raises("Unfit", {}, fewest_places, city, hold)
                    continue
                without = {k: lots[tuple(n for n in whole if n != k)] for k in whole}
                want = tuple(k for k in whole if hold not in without[k])
                self.assert_same(needed_places(city, hold), want, (town, hold))
                fewest = min((len(some), some) for some, come in lots.items() if hold in come)[1]
                lengths.add(len(fewest))
                unneeded += len(fewest) > len(want)
                self.assert_same(fewest_places(city, hold), fewest, (town, hold))
        self.assertEqual({1, 2, 3}, lengths)
        self.assertGreater(unneeded, 0)

    def test_fewest_is_the_least_of_the_fewest(self):
        edge = (("ann",), ("box",))
        owner = (edge, all_that_follow(edge, (("home", "ann", "own", "box"),)))
        bare = emptied(edge)
        hold = ("ann", "own", "box")
        self.assert_same(fewest_places((bare, owner, owner), hold), (1,))
        self.assert_same(needed_places((bare, owner, owner), hold), ())
        self.assert_same(needed_places((bare, owner, bare), hold), (1,))
        near = (edge, all_that_follow(edge, (("home", "ann", "hand", "box"),)))
        city, hold = (bare, owner, near, near, owner), ("box", "own", "box")
        self.assert_same(fewest_places(city, hold), (1, 2))
        self.assert_same(fewest_places(city, hold), fewest_by_rules(city, hold))
        self.assert_same(needed_places(city, hold), ())

    def test_fewest_by_the_rules(self):
        rng = random.Random(732)
        for _ in range(40):
            city = towns.random_city(rng, rng.randint(3, 5), 3, 2)
            for hold in city_holds(city)[::3]:
                self.assert_same(fewest_places(city, hold), fewest_by_rules(city, hold))

    def test_idle_places(self):
        rng = random.Random(733)
        seen = set()
        for town in towns.drawn(733, 24, 3, (1, 2, 3)):
            city = towns.city_of(town)
            for border in borders(rng, towns.edge_of_all(town), 1):
                whole = towns.plot_of(town, border)
                want = []
                for place in range(len(town)):
                    less = towns.only(town, [k for k in range(len(town)) if k != place])
                    want += [place] if towns.plot_of(less, border) == whole else []
                seen.add(len(want))
                self.assert_same(idle_places(city, border), tuple(want), (town, border))
        self.assertLessEqual({0, 1, 2, 3}, seen)


def fewest_by_rules(city, hold):
    lots = []
    for some in ruled.subsets(range(len(city))):
        plots = [(edge, lines if k in some else ruled.closure(edge, ())) for k, (edge, lines) in enumerate(city)]
        if towns.lets(plots, hold):
            lots.append((len(some), some))
    return min(lots)[1]


class Standing(Rules, unittest.TestCase):
    def check(self, city):
        town = houses_for(city)
        self.assertTrue(towns.stands_ok(city, town), (city, town))
        self.assertIs(is_houses_for(city, town), True)
        return town

    def test_houses_for(self):
        for town in towns.drawn(741, 30):
            city = towns.city_of(town)
            told = self.check(city)
            self.assertEqual(towns.comes(told), towns.comes(town), (town, told))

    def test_houses_for_drawn_lines(self):
        rng = random.Random(742)
        for number in range(60):
            city = towns.random_city(rng, number % 4)
            town = self.check(city)
            want = {line[1:] for line in towns.told(city) if line[0] == "home"}
            self.assertEqual(towns.comes(town), want, city)

    def test_letters_alone_matter(self):
        rng = random.Random(743)
        for town in towns.drawn(743, 10, 3, (2,)):
            told = houses_for(towns.city_of(town))
            for border in borders(rng, towns.edge_of_all(town), 1):
                self.assert_same(towns.plot_of(told, border), towns.plot_of(town, border), (town, border))

    def test_plots_alike_and_plots_with_names_that_inner_ones_would_have(self):
        edge = (("a", "ba"), ("b", "c"))
        plot = (edge, ruled.closure(edge, (("both", "b", "c"), ("takes", "b", "a"))))
        other = (((), ("d", "e")), ruled.closure(((), ("d", "e")), (("meets", "d", "e"), ("takes", "d", "e"))))
        self.check((plot, plot, other, other))


class Errors(Rules, unittest.TestCase):
    def test_city_of(self):
        hidden = (((), ("box", "ivy"), ()), ("box",))
        for town in (
            (FLAT, SHOP, (SHOP[0], ("box",))), (SHOP, hidden), (hidden, SHOP), (FLAT, (FLAT[0], ("box",))), (FLAT, STORE, FLAT,
            (((), ("cup", "dan"), ()), ("cup", "dan"))), (((("box",), (), ()), ("box",)), FLAT), (SHOP, SHOP), (hidden, hidden),
        ):
            self.assert_raises("Unfit", {}, city_of, town)
        self.assert_same(city_of((FLAT, FLAT)), towns.city_of((FLAT, FLAT)))
        self.assert_same(city_of(()), ())
        apart = ((("ann",), ("box",), ()), ()), ((("bob",), ("cup",), ()), ())
        self.assert_same(city_of(apart), ((((), ()), ()),) * 2)

    def test_no_number(self):
        lines = CITY[0][1]
        for number in (-1, 3, -3, 10 ** 9, -10 ** 9):
            for function, more in ((neighbours, ()), (surroundings, ()), (changed_for, (lines,))):
                self.assert_raises("NoNumber", {"number": number}, function, CITY, number, *more)
                self.assert_raises("NoNumber", {"number": number}, function, (), number, *more)
            self.assert_raises("NoNumber", {"number": number}, joined_plots, CITY, number, 7)
            self.assert_raises("NoNumber", {"number": number}, joined_plots, CITY, 0, number)
            self.assert_raises("NoNumber", {"number": number}, joined_plots, CITY, number, number)
        self.assert_raises("NoNumber", {"number": 0}, neighbours, (), 0)

    def test_brings_it_errors_in_order(self):
        self.assert_raises("NoNumber", {"number": -2}, brings_it, CITY, (-2, 0, 9), ("eve", "own", "zed"))
        self.assert_raises("NoNumber", {"number": 9}, brings_it, CITY, (0, 9), ("ann", "own", "dan"))
        self.assert_raises("NoMember", {"name": "eve"}, brings_it, CITY, (0,), ("eve", "own", "zed"))
        self.assert_raises("NoMember", {"name": "zed"}, brings_it, CITY, (), ("ann", "own", "zed"))

    def test_joined_plots_unfit(self):
        for number in range(3):
            self.assert_raises("Unfit", {}, joined_plots, CITY, number, number)

    def test_no_member(self):
        for function in (city_lets, needed_places, fewest_places):
            self.assert_raises("NoMember", {"name": "ivy"}, function, CITY, ("ivy", "own", "eve"))
            self.assert_raises("NoMember", {"name": "eve"}, function, CITY, ("ann", "own", "eve"))
            self.assert_raises("NoMember", {"name": "x"}, function, (), ("x", "own", "y"))
        for function in (city_letter, idle_places):
            self.assert_raises("NoMember", {"name": "ivy"}, function, CITY, ("ann", "ivy", "zed"))
            self.assert_raises("NoMember", {"name": ""}, function, CITY, ("", "ivy"))
            self.assert_raises("NoMember", {"name": "x"}, function, (), ("x",))
        for name in ("ivy", "", "Box", "own"):
            self.assert_raises("NoMember", {"name": name}, cut_out, CITY[0][0], CITY[0][1], name)

    def test_unfit_if_it_does_not_come(self):
        for function in (needed_places, fewest_places):
            self.assert_raises("Unfit", {}, function, CITY, ("dan", "own", "ann"))
            self.assert_raises("Unfit", {}, function, CITY, ("ann", "none", "dan"))


class Bounds(Rules, unittest.TestCase):
    def town(self, seed):
        rng = random.Random(seed)
        people, things = ("a", "b", "c", "d"), ("m", "n", "o", "p")
        town = []
        for sign in "uvwxyz":
            some = rng.sample(people, 2), rng.sample(things, 2)
            town.append(towns.house_at_bounds(rng, oracle.ascending(some[0]), oracle.ascending(some[1]), sign))
        return tuple(town)

    def test_cities_at_the_bounds(self):
        for seed in (751, 752):
            town = self.town(seed)
            city = city_of(town)
            edge = city_edge(city)
            self.assertEqual((len(city), len(edge[0] + edge[1])), (6, 8))
            self.assertIs(is_city(city), True)
            self.assert_same(city[0][1], letter_of(town[0]))
            told = towns.comes(town)
            self.assert_same(city_holds(city), oracle.ascending(told))
            self.assert_same(all_lines(city), oracle.ascending(towns.told(city)))
            self.assertIs(is_houses_for(city, town), True)
            self.assertIs(is_houses_for(city, houses_for(city)), True)
            for hold in sorted(told)[::60]:
                self.assert_same(fewest_places(city, hold), self.fewest(town, hold))
                lots = [towns.only(town, [k for k in range(6) if k != place]) for place in range(6)]
                want = tuple(place for place in range(6) if hold not in towns.comes(lots[place]))
                self.assert_same(needed_places(city, hold), want)

    def fewest(self, town, hold):
        for some in ruled.subsets(range(len(town))):
            if hold in towns.comes(towns.only(town, some)):
                return some
        return None

    def test_plots_of_eight_names(self):
        rng = random.Random(753)
        edge = (("a", "b", "c", "d"), ("m", "n", "o", "p"))
        rights = ("hand", "own", "see", "take", "use")
        whole = houses.all_lines(edge, rights)
        for many in (5, 30, len(whole)):
            lines = all_that_follow(edge, oracle.ascending(rng.sample(whole, many)))
            self.assertIs(is_closed(edge, lines), True)
            self.assert_same(all_lines(((edge, lines),)), lines)
            town = houses_for(((edge, lines), emptied(edge)))
            self.assertIs(is_houses_for(((edge, lines), emptied(edge)), town), True)
            want = tuple(line for line in lines if "a" not in (line[1], line[-1]))
            self.assert_same(cut_out(edge, lines, "a"), ((edge[0][1:], edge[1]), want))
            self.assert_same(surroundings(((edge, lines), emptied(edge)), 1), (edge, lines))
            self.assert_same(joined_plots((emptied(edge), (edge, lines)), 0, 1), ((edge, lines),))


NUMBERS = (0, 2, -1, 3)
HOLDS = (("ann", "own", "dan"), ("dan", "own", "ann"), ("ivy", "own", "x"), ("box", "take", "cup"), ("ann", "own", "x"))
BORDERS = ((), ("cup",), ("ann", "ivy"), ("ann", "box", "dan"))
ODD_FEW = (3, None, True, "box", (), TOWN, list(TOWN), CITY, list(CITY), CITY[:1] + (list(CITY[1]),), TOWN[:1] + (list(SHOP),))
CALLS = (
    (is_city, "thing", [(thing,) for thing in ODD_FEW]),
    (city_edge, "city", [(CITY,), ((),), (LONE,)]),
    (city_of, "houses", [(TOWN,), ((),), ((SHOP, SHOP),)]),
    (all_lines, "city", [(CITY,), ((),), (LONE,)]),
    (city_letter, "city border", [(CITY, border) for border in BORDERS]),
    (city_lets, "city hold", [(CITY, hold) for hold in HOLDS]),
    (city_holds, "city", [(CITY,), ((),), (LONE,)]),
    (cut_out, "edge lines name", [CITY[0] + (name,) for name in ("ann", "box", "cup")]),
    (joined_plots, "city number other", [(CITY, one, other) for one in NUMBERS for other in NUMBERS]),
    (emptied, "edge", [(edge,) for edge in ruled.EDGES]),
    (neighbours, "city number", [(CITY, number) for number in NUMBERS]),
    (surroundings, "city number", [(CITY, number) for number in NUMBERS]),
    (changed_for, "city number lines", [(CITY, number, lines) for number in NUMBERS for lines in (
        CITY[0][1], ruled.closure(CITY[0][0], ()))]),
    (brings_it, "city some hold", [(CITY, some, hold) for some in ((), (0, 1, 2), (0, 3)) for hold in HOLDS]),
    (needed_places, "city hold", [(CITY, hold) for hold in HOLDS]),
    (fewest_places, "city hold", [(CITY, hold) for hold in HOLDS]),
    (idle_places, "city border", [(CITY, border) for border in BORDERS]),
    (houses_for, "city", [(CITY,), ((),), (LONE,)]),
    (is_houses_for, "city thing", [(CITY, thing) for thing in ODD_FEW]),
)


class General(Rules, unittest.TestCase):
    def test_rules_of_all_calls(self):
        self.check_calls(CALLS)


if __name__ == "__main__":
    unittest.main()
