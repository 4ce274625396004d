"""[16], with [2] and [3]: what was put and seen, and whether that could be."""

import random
import unittest

import houses
import oracle
import ruled
import towns
from rules import ODD, Rules, near_misses
from touchrights.seen import (
    are_events, could_be, could_be_seen, earliest, first_impossible, impossible_sights, is_event, least_helpers,
    least_puts, needed_helpers, needed_lines, needed_puts,
)

FLAT = ((("ann",), ("box",), (("ann", "take", "box"),)), ("ann", "box"))
SHOP = ((("ivy",), ("box", "cup"), (("ivy", "hand", "box"), ("ivy", "take", "cup"))), ("box", "cup"))
STORE = ((("dan",), ("cup",), (("cup", "own", "dan"),)), ("cup", "dan"))
PROMISES = towns.city_of((FLAT, SHOP, STORE))
EARLY, GIFT, LATE = ("see", ("ann", "own", "dan")), ("put", ("cup", "gem", "box")), ("see", ("ann", "gem", "box"))
RIGHTS = ("hand", "own", "take")
FIRST = ((("ann",), ("box",)), (("home", "ann", "take", "box"),))
SECOND = (((), ("box", "cup")), (("both", "cup", "cup"), ("flows", "cup", "box")))
DRAFTS = (FIRST, SECOND, (((), ("cup",)), ()))


# EVENTS as the tests judge them: what follows from all LINES, with the LINES "home" of all that was put ahead.

def home(hold):
    return ("home",) + hold


def puts_ahead(events, number):
    return [place for place in range(number) if events[place][0] == "put"]


def sight_fits(promises, puts, hold):
    return home(hold) in towns.told(promises, tuple(home(put) for put in puts))


def impossible(promises, events):
    found = []
    for number, (word, hold) in enumerate(events):
        puts = [events[place][1] for place in puts_ahead(events, number)]
        if word == "see" and not sight_fits(promises, puts, hold):
            found.append(number)
    return tuple(found)


def random_events(rng, promises, most, rights=RIGHTS):
    """EVENTS between NAMES of promises, many of which are seen by what was put."""
    edge = towns.edge_of_city(promises)
    lots, events = towns.all_holds(edge, rights), []
    if not lots:
        return ()
    for _ in range(rng.randint(0, most)):
        if rng.random() < 0.5:
            events.append(("put", rng.choice(lots)))
            continue
        puts = tuple(home(hold) for word, hold in events if word == "put")
        told = sorted({line[1:] for line in towns.told(promises, puts) if line[0] == "home"})
        sure = {line[1:] for line in towns.told(promises) if line[0] == "home"}
        late = [hold for hold in told if hold not in sure and home(hold) not in puts]
        kind = rng.randint(0, 9)
        if late and kind < 7:
            events.append(("see", rng.choice(late)))
        elif told and kind < 9:
            events.append(("see", rng.choice(told)))
        else:
            events.append(("see", rng.choice(lots)))
    return tuple(events)


def cases(seed, many, most=5, plots=(1, 2, 3), lines=3):
    rng = random.Random(seed)
    found = []
    for number in range(many):
        promises = towns.random_city(rng, plots[number % len(plots)], 3, lines, towns.PEOPLE, ("b", "d"))
        found.append((promises, random_events(rng, promises, most)))
    return found


def fine_cases(seed, many, most=5, plots=(1, 2, 3), lines=3):
    """Those that could be."""
    return [case for case in cases(seed, 3 * many, most, plots, lines) if not impossible(*case)][:many]


class Forms(Rules, unittest.TestCase):
    def event_ok(self, thing):
        if type(thing) is not tuple or len(thing) != 2 or type(thing[0]) is not str or thing[0] not in ("put", "see"):
            return False
        return type(thing[1]) is tuple and len(thing[1]) == 3 and all(oracle.name_ok(word) for word in thing[1])

    def test_is_event(self):
        good = 0
        for event in (EARLY, GIFT):
            for thing in list(ODD) + list(near_misses(event)) + [event]:
                good += self.event_ok(thing)
                self.assert_same(is_event(thing), self.event_ok(thing), thing)
        self.assertGreater(good, 20)
        for thing in (("put", ("a", "take", "a")), ("see", ("a", "b", "c"))):
            self.assertIs(is_event(thing), True)
        for thing in (("Put", ("a", "b", "c")), ("", ("a", "b", "c")), ("put", ("a", "b", "c"), ()), ("put", "abc")):
            self.assertIs(is_event(thing), False)

    def test_are_events(self):
        for row in ((), (GIFT,), (EARLY, GIFT, LATE)):
            for thing in list(ODD) + list(near_misses(row)) + [row]:
                want = type(thing) is tuple and all(self.event_ok(part) for part in thing)
                self.assert_same(are_events(thing), want, thing)
        self.assertIs(are_events((GIFT, GIFT, EARLY) * 300), True)
        self.assertIs(are_events((GIFT, GIFT, EARLY) * 300 + (list(GIFT),)), False)


class Being(Rules, unittest.TestCase):
    def test_by_what_follows(self):
        seen = {True: 0, False: 0}
        for promises, events in cases(1601, 240):
            want = impossible(promises, events)
            if any(word == "see" for word, _ in events):
                seen[want == ()] += 1
            self.assert_same(impossible_sights(promises, events), want, (promises, events))
            self.assert_same(could_be(promises, events), want == (), (promises, events))
            self.assert_same(first_impossible(promises, events), want[0] if want else None, (promises, events))
        self.assertGreater(min(seen.values()), 30)

    def test_each_see_by_itself(self):
        """What is seen makes nothing more possible, and nothing impossible."""
        for promises, events in cases(1602, 120):
            for number, (word, _) in enumerate(events):
                if word == "see":
                    alone = tuple(events[place] for place in puts_ahead(events, number)) + (events[number],)
                    self.assert_same(could_be(promises, alone), number not in impossible_sights(promises, events))

    def test_order_of_events(self):
        turned = 0
        for promises, events in cases(1603, 160):
            for at in range(len(events) - 1):
                if (events[at][0], events[at + 1][0]) == ("put", "see"):
                    late = events[:at] + (events[at + 1], events[at]) + events[at + 2:]
                    turned += could_be(promises, events) and not could_be(promises, late)
                    if could_be(promises, late):
                        self.assertIs(could_be(promises, events), True)
        self.assertGreater(turned, 20)
        self.assertIs(could_be(PROMISES, (GIFT, LATE)), True)
        self.assertIs(could_be(PROMISES, (LATE, GIFT)), False)

    def test_more_lines_and_puts_make_nothing_impossible(self):
        rng = random.Random(1604)
        for promises, events in fine_cases(1604, 80):
            for place, (edge, lines) in enumerate(promises):
                more = ruled.closure(edge, oracle.ascending(lines + ruled.some_lines(rng, edge, 1)))
                self.assertIs(could_be(promises[:place] + ((edge, more),) + promises[place + 1:], events), True)
            for hold in towns.some_holds(rng, towns.edge_of_city(promises), 1):
                at = rng.randint(0, len(events))
                self.assertIs(could_be(promises, events[:at] + (("put", hold),) + events[at:]), True)

    def test_no_events(self):
        for promises in ((), PROMISES):
            self.assert_same(could_be(promises, ()), True)
            self.assert_same(impossible_sights(promises, ()), ())
            self.assert_same(first_impossible(promises, ()), None)
        self.assert_same(could_be_seen((), ()), ())
        self.assert_same(needed_helpers(PROMISES, ()), ())
        self.assert_same(least_helpers(PROMISES, ()), ((),))
        self.assert_same(needed_lines(DRAFTS, ()), ())
        self.assert_same(needed_lines((), ()), ())

    def test_a_see_twice(self):
        wrong = ("see", ("dan", "own", "ann"))
        self.assert_same(impossible_sights(PROMISES, (wrong, LATE, GIFT, LATE, wrong)), (0, 1, 4))
        self.assert_same(first_impossible(PROMISES, (GIFT, LATE, wrong, wrong)), 2)
        self.assert_same(needed_puts(PROMISES, (LATE, GIFT, LATE, LATE), 3), (1,))
        self.assert_same(least_puts(PROMISES, (GIFT, LATE, GIFT, LATE), 3), ((0,), (2,)))
        self.assert_same(needed_puts(PROMISES, (GIFT, LATE, GIFT, LATE), 3), ())

    def test_could_be_seen(self):
        more = 0
        for promises, events in cases(1605, 150):
            puts = tuple(home(hold) for word, hold in events if word == "put")
            want = oracle.ascending(line[1:] for line in towns.told(promises, puts) if line[0] == "home")
            more += len(want) > len({line for line in towns.told(promises) if line[0] == "home"})
            self.assert_same(could_be_seen(promises, events), want, (promises, events))
            rest = tuple(event for event in events if event[0] == "put")
            self.assert_same(could_be_seen(promises, rest), want)
        self.assertGreater(more, 60)
        self.assertIn(("cup", "gem", "box"), could_be_seen(PROMISES, (GIFT,)))
        self.assertNotIn(("ann", "gem", "box"), could_be_seen(PROMISES, (LATE,)))

    def test_earliest(self):
        rng = random.Random(1606)
        found = set()
        for promises, events in cases(1606, 160, 6):
            some = {line[1:] for line in towns.told(promises, tuple(home(hold) for _, hold in events)) if line[0] == "home"}
            lots = rng.sample(sorted(some), min(5, len(some))) + list(towns.some_holds(rng, towns.edge_of_city(promises), 2))
            for hold in lots:
                want = None
                for many in reversed(range(len(events) + 1)):
                    puts = [put for word, put in events[:many] if word == "put"]
                    want = many if sight_fits(promises, puts, hold) else want
                found.add(want)
                self.assert_same(earliest(promises, events, hold), want, (promises, events, hold))
        self.assertLessEqual({None, 0, 1, 2, 3}, found)
        self.assert_same(earliest(PROMISES, (GIFT, GIFT), GIFT[1]), 1)
        self.assert_same(earliest(PROMISES, (LATE, GIFT), LATE[1]), 2)
        self.assert_same(earliest(PROMISES, (LATE, LATE), LATE[1]), None)


class Played(Rules, unittest.TestCase):
    def seen_by(self, town, events):
        """For each number what HOLDS come by then: after each "put" all that DEEDS bring is there, and stays."""
        book, told = towns.together(town), []
        for word, hold in events:
            told.append(oracle.ever(book))
            if word == "put":
                book = oracle.side_by_side(book, ((), (), (hold,)))
        return told

    def test_in_houses_put_beside_one_another(self):
        """HOUSES that have just what they promise bring each "see" that could be by its time, and no other."""
        rng = random.Random(1611)
        seen = {True: 0, False: 0}
        for town in towns.drawn(1611, 200, 3, (1, 2, 3)):
            promises = towns.city_of(town)
            events = random_events(rng, promises, 5)
            told = self.seen_by(town, events)
            bad = impossible_sights(promises, events)
            for number, (word, hold) in enumerate(events):
                if word == "see":
                    seen[hold in told[number]] += 1
                    self.assertEqual(number not in bad, hold in told[number], (town, events, number))
        self.assertGreater(min(seen.values()), 15)

    def test_deeds_in_between_bring_no_more(self):
        """All DEEDS that change something are done ahead of each "put", too: the same is seen."""
        rng = random.Random(1612)
        for town in towns.drawn(1612, 40, 3, (1, 2)):
            promises = towns.city_of(town)
            events = random_events(rng, promises, 4)
            book = towns.together(town)
            bad = impossible_sights(promises, events)
            for number, (word, hold) in enumerate(events):
                members = book[0] + book[1]
                come = oracle.among(oracle.ever(book), members)
                if word == "see":
                    self.assertEqual(number not in bad, hold in come, (town, events, number))
                book = (book[0], book[1], oracle.ascending(come))
                if word == "put":
                    book = oracle.side_by_side(book, ((), (), (hold,)))

    def test_in_houses_that_keep_promises(self):
        rng = random.Random(1613)
        for town in towns.drawn(1613, 60, 3, (1, 2, 3)):
            promises = towns.promised(rng, town)
            events = random_events(rng, promises, 5)
            told = self.seen_by(town, events)
            for number in impossible_sights(promises, events):
                self.assertNotIn(events[number][1], told[number], (town, promises, events))


class Needed(Rules, unittest.TestCase):
    def test_puts(self):
        seen = set()
        for promises, events in cases(1621, 260, 6):
            for number, (word, hold) in enumerate(events):
                ahead = puts_ahead(events, number)
                lots = [some for some in ruled.subsets(ahead)
                        if sight_fits(promises, [events[place][1] for place in some], hold)]
                if word == "put" or not lots:
                    self.assert_raises("Unfit", {}, needed_puts, promises, events, number)
                    self.assert_raises("Unfit", {}, least_puts, promises, events, number)
                    continue
                least = ruled.least(lots)
                seen |= {(min(len(least), 2), len(some)) for some in least}
                self.assert_same(least_puts(promises, events, number), tuple(least), (promises, events, number))
                needed = tuple(place for place in ahead if all(place in some for some in least))
                alone = tuple(place for place in ahead if tuple(one for one in ahead if one != place) not in lots)
                self.assertEqual(needed, alone)
                self.assert_same(needed_puts(promises, events, number), needed, (promises, events, number))
        self.assertLessEqual({(1, 0), (1, 1), (1, 2), (2, 1)}, seen)

    def test_helpers(self):
        seen = set()
        for promises, events in fine_cases(1622, 200, 5, (1, 2, 3, 3, 4)):
            lots = []
            for some in ruled.subsets(range(len(promises))):
                plots = tuple(plot if place in some else (plot[0], ruled.closure(plot[0], ()))
                              for place, plot in enumerate(promises))
                lots += [some] if not impossible(plots, events) else []
            least = ruled.least(lots)
            seen |= {(min(len(least), 2), len(some)) for some in least}
            self.assert_same(least_helpers(promises, events), tuple(least), (promises, events))
            places = range(len(promises))
            want = tuple(place for place in places if tuple(one for one in places if one != place) not in lots)
            self.assertEqual(want, tuple(place for place in places if all(place in some for some in least)))
            self.assert_same(needed_helpers(promises, events), want, (promises, events))
        self.assertLessEqual({(1, 0), (1, 1), (1, 2), (2, 1)}, seen)

    def test_lines(self):
        rng = random.Random(1623)
        sizes, bad = set(), 0
        for number in range(240):
            plots = []
            for _ in range((1, 2, 2, 3)[number % 4]):
                edge = towns.random_border(rng, 3, towns.PEOPLE, ("b", "d"))
                plots.append((edge, ruled.some_lines(rng, edge, rng.randint(0, 5))))
            if number % 3 == 0:
                plots.append(plots[0])
            drafts = tuple(plots)
            events = random_events(rng, drafts, 4)
            if impossible(drafts, events):
                bad += 1
                self.assert_raises("Unfit", {}, needed_lines, drafts, events)
                continue
            want = []
            for place, (edge, lines) in enumerate(drafts):
                for line in lines:
                    rest = (edge, tuple(other for other in lines if other != line))
                    if impossible(drafts[:place] + (rest,) + drafts[place + 1:], events):
                        want.append((place, line))
            sizes.add(min(len(want), 3))
            self.assert_same(needed_lines(drafts, events), tuple(want), (drafts, events))
        self.assertEqual(sizes, {0, 1, 2, 3})
        self.assertGreater(bad, 15)

    def test_a_line_at_another_place_stays(self):
        self.assert_same(needed_lines((FIRST, FIRST, SECOND), (GIFT, LATE)), ((2, ("flows", "cup", "box")),))
        self.assert_same(needed_lines(DRAFTS, (GIFT, LATE)), (
            (0, ("home", "ann", "take", "box")), (1, ("flows", "cup", "box"))))

    def test_drafts_need_not_be_closed(self):
        for place in range(3):
            self.assertFalse(ruled.closed_ok(*DRAFTS[place]) and place < 2)
        self.assert_raises("Unfit", {}, needed_lines, DRAFTS, (LATE, GIFT))


class Errors(Rules, unittest.TestCase):
    def test_no_member(self):
        eve, zed = ("see", ("eve", "own", "zed")), ("put", ("box", "own", "zed"))
        for function in (could_be, impossible_sights, first_impossible, could_be_seen, needed_helpers, least_helpers):
            self.assert_raises("NoMember", {"name": "eve"}, function, PROMISES, (GIFT, eve, zed))
            self.assert_raises("NoMember", {"name": "zed"}, function, PROMISES, (zed, eve))
            self.assert_raises("NoMember", {"name": "ann"}, function, (), (EARLY,))
        self.assert_raises("NoMember", {"name": "eve"}, needed_lines, DRAFTS, (eve, zed))
        self.assert_raises("NoMember", {"name": "dan"}, needed_lines, DRAFTS, (LATE, EARLY))
        stray = DRAFTS + (((("ann",), ()), (("flows", "ann", "cup"),)),)
        self.assert_raises("NoMember", {"name": "cup"}, needed_lines, stray, (eve,))
        self.assert_raises("NoMember", {"name": "eve"}, earliest, PROMISES, (eve,), ("x", "own", "y"))
        self.assert_raises("NoMember", {"name": "x"}, earliest, PROMISES, (GIFT,), ("x", "own", "y"))
        self.assert_raises("NoMember", {"name": ""}, earliest, PROMISES, (GIFT,), ("box", "own", ""))

    def test_no_number_first(self):
        eve = ("see", ("eve", "own", "zed"))
        for function in (needed_puts, least_puts):
            for number in (-1, 2, 10 ** 9, -10 ** 9):
                self.assert_raises("NoNumber", {"number": number}, function, PROMISES, (GIFT, eve), number)
            self.assert_raises("NoNumber", {"number": 0}, function, PROMISES, (), 0)
            self.assert_raises("NoMember", {"name": "eve"}, function, PROMISES, (GIFT, eve), 0)
            self.assert_raises("NoMember", {"name": "eve"}, function, PROMISES, (LATE, eve), 0)

    def test_unfit_last(self):
        for function in (needed_puts, least_puts):
            self.assert_raises("Unfit", {}, function, PROMISES, (GIFT, LATE), 0)
            self.assert_raises("Unfit", {}, function, PROMISES, (LATE, GIFT), 0)
        self.assert_same(needed_puts(PROMISES, (LATE, GIFT, LATE), 2), (1,))
        for function in (needed_helpers, least_helpers):
            self.assert_raises("Unfit", {}, function, PROMISES, (LATE, GIFT))


class Bounds(Rules, unittest.TestCase):
    def test_six_plots_eight_names_twelve_events(self):
        rng = random.Random(1631)
        rights = ("hand", "open", "own", "see", "take")
        people, things = ("a", "b", "c", "d"), ("m", "n", "o", "p")
        for _ in range(3):
            town = []
            for sign in "uvwxyz":
                some = rng.sample(people, 2), rng.sample(things, 2)
                town.append(towns.random_house(rng, oracle.ascending(some[0]), oracle.ascending(some[1]), ("x" + sign,), 3))
            promises, edge = towns.city_of(town), towns.edge_of_all(town)
            lots = towns.all_holds(edge, rights)
            events = tuple((word, rng.choice(lots)) for word in ("put", "see") * 6)
            book, bad = towns.together(town), []
            for number, (word, hold) in enumerate(events):
                if word == "put":
                    book = oracle.side_by_side(book, ((), (), (hold,)))
                elif hold not in oracle.ever(book):
                    bad.append(number)
            self.assert_same(impossible_sights(promises, events), tuple(bad))
            want = oracle.among(oracle.ever(book), towns.names_of(edge))
            self.assert_same(could_be_seen(promises, events), oracle.ascending(want))

    def test_plots_of_eight_names(self):
        edge = (("a", "b", "c", "d"), ("m", "n", "o", "p"))
        lines = houses.all_lines(edge, ("hand", "own", "take"))
        promises = ((edge, lines),) * 6
        self.assertIs(could_be(promises, (("see", ("a", "own", "p")), ("put", ("a", "see", "b")), ("see", ("p", "see", "b")))), True)
        self.assert_same(impossible_sights(promises, (("see", ("a", "see", "p")),)), (0,))

    def test_twenty_four_lines_six_puts(self):
        rng = random.Random(1632)
        for _ in range(6):
            drafts = []
            for edge in ((("a",), ("m", "n")), (("c",), ("m", "o")), ((), ("m", "n", "o")), (("a", "c"), ("n",))):
                drafts.append((edge, ruled.some_lines(rng, edge, 6)))
            drafts, lots = tuple(drafts), towns.all_holds((("a", "c"), ("m", "n", "o")), RIGHTS)
            events = tuple(("put", rng.choice(lots)) for _ in range(6))
            late = sorted(line[1:] for line in towns.told(drafts, [home(hold) for _, hold in events]) if line[0] == "home")
            events += tuple(("see", hold) for hold in rng.sample(late, min(6, len(late))))
            want = []
            for place, (edge, lines) in enumerate(drafts):
                for line in lines:
                    rest = (edge, tuple(other for other in lines if other != line))
                    if impossible(drafts[:place] + (rest,) + drafts[place + 1:], events):
                        want.append((place, line))
            self.assert_same(needed_lines(drafts, events), tuple(want))
            promises = tuple((edge, ruled.closure(edge, lines)) for edge, lines in drafts)
            lots = [some for some in ruled.subsets(range(6)) if sight_fits(
                promises, [events[place][1] for place in some], events[-1][1])]
            self.assert_same(least_puts(promises, events, len(events) - 1), tuple(ruled.least(lots)))


ROWS = ((), (GIFT, LATE), (EARLY, GIFT, LATE), (LATE, GIFT), (GIFT, ("see", ("eve", "own", "zed"))))
WITH_EVENTS = [(promises, events) for promises in (PROMISES, PROMISES[1:], ()) for events in ROWS]
WITH_NUMBER = [(PROMISES, events, number) for events in ROWS for number in (-1, 0, 1, 2, 7)]
CALLS = (
    (is_event, "thing", [(thing,) for thing in (GIFT, list(GIFT), ("put", list(GIFT[1])), None)]),
    (are_events, "thing", [(thing,) for thing in ((GIFT,), [GIFT], (list(GIFT),), (), 7)]),
    (could_be, "promises events", WITH_EVENTS),
    (impossible_sights, "promises events", WITH_EVENTS),
    (first_impossible, "promises events", WITH_EVENTS),
    (could_be_seen, "promises events", WITH_EVENTS),
    (earliest, "promises events hold", [
        (PROMISES, events, hold) for events in ROWS for hold in (LATE[1], EARLY[1], ("eve", "own", "x"))]),
    (needed_puts, "promises events number", WITH_NUMBER),
    (least_puts, "promises events number", WITH_NUMBER),
    (needed_helpers, "promises events", WITH_EVENTS),
    (least_helpers, "promises events", WITH_EVENTS),
    (needed_lines, "drafts events", [(drafts, events) for drafts in (DRAFTS, (), DRAFTS[:1]) for events in ROWS]),
)


class General(Rules, unittest.TestCase):
    def test_rules_of_all_calls(self):
        self.check_calls(CALLS)


if __name__ == "__main__":
    unittest.main()
