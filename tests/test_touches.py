"""[6], with [2] and [3]: REACH, GIFTS, touches and CIRCLES."""

import itertools
import random
import unittest

import houses
import oracle
from rules import Rules
from touchrights.touches import brought, circles, gifts, reach, row_of_touches, touch_of

BOOK = (("ann", "bob", "cy", "dan"), ("box", "key"), (
    ("ann", "take", "box"), ("bob", "hand", "box"), ("bob", "own", "key"), ("cy", "take", "bob"), ("dan", "take", "key"),
))
EMPTY = ((), (), ())
RIGHTS = ("take", "take", "take", "hand", "hand", "own")


def books(seed, many, most=5):
    return oracle.random_books(seed, many, most, RIGHTS)


def touching(book, name, other):
    return name != other and houses.touch_word(book, name, other) is not None


def shortest_rows(book, name, other):
    """All rows of touches from one to the other, of the least length at which there are some."""
    for many in range(1, len(book[0]) + 1):
        rows = [row for row in itertools.permutations(book[0], many) if row[0] == name and row[-1] == other]
        rows = [row for row in rows if all(touching(book, one, two) for one, two in zip(row, row[1:]))]
        if rows:
            return rows
    return []


class Sets(Rules, unittest.TestCase):
    def test_against_their_words(self):
        for book in books(101, 150) + oracle.small_books()[::4]:
            for name in book[0] + book[1]:
                self.assert_same(reach(book, name), oracle.ascending(houses.reach_of(book, name)), book)
                self.assert_same(gifts(book, name), oracle.ascending(houses.gifts_of(book, name)), book)
                self.assert_same(brought(book, name), oracle.ascending(houses.brought_by(book, name)), book)

    def test_over_people_and_things_and_back(self):
        holds = (("ann", "take", "b"), ("b", "take", "cy"), ("cy", "take", "d"), ("d", "hand", "ann"), ("d", "take", "b"))
        book = (("ann", "cy"), ("b", "d"), holds)
        self.assert_same(reach(book, "ann"), ("ann", "b", "cy", "d"))
        self.assert_same(reach(book, "d"), ("b", "cy", "d"))
        self.assert_same(gifts(book, "ann"), ("ann",))
        self.assert_same(gifts(book, "b"), ("ann",))
        self.assert_same(brought(book, "cy"), (("hand", "ann"), ("take", "b"), ("take", "cy"), ("take", "d")))

    def test_alone(self):
        book = (("ann",), ("box",), ())
        for name in ("ann", "box"):
            self.assert_same(reach(book, name), (name,))
            self.assert_same(gifts(book, name), ())
            self.assert_same(brought(book, name), ())

    def test_no_member(self):
        for name in ("x", "", "Ann", "take"):
            for function in (reach, gifts, brought):
                self.assert_raises("NoMember", {"name": name}, function, BOOK, name)
                self.assert_raises("NoMember", {"name": name}, function, EMPTY, name)


class Touches(Rules, unittest.TestCase):
    def test_against_their_words(self):
        seen = {}
        for book in books(102, 250) + oracle.small_books():
            for name in book[0]:
                for other in book[0]:
                    if name == other:
                        self.assert_raises("Unfit", {}, touch_of, book, name, other)
                        continue
                    want = houses.touch_word(book, name, other)
                    seen[want] = seen.get(want, 0) + 1
                    self.assert_same(touch_of(book, name, other), want, book)
        self.assertEqual(set(seen), {"reaches", "reached", "gives", "given", None})
        self.assertGreater(min(seen.values()), 20)

    def test_the_first_word_that_is_so(self):
        people = ("ann", "bob")
        holds = (
            ("ann", "take", "bob"), ("bob", "take", "ann"), ("ann", "hand", "bob"), ("bob", "hand", "ann"),
        )
        words = ("reaches", "reached", "gives", "given")
        for place in range(4):
            book = (people, (), oracle.ascending(holds[place:]))
            self.assert_same(touch_of(book, "ann", "bob"), words[place])

    def test_who_only_takes_or_only_gives_does_not_touch(self):
        for right in ("take", "hand", "own"):
            book = (("ann", "bob"), ("box",), (("ann", right, "box"), ("bob", right, "box")))
            self.assert_same(touch_of(book, "ann", "bob"), None)
            self.assert_same(circles(book), (("ann",), ("bob",)))

    def test_errors_in_order(self):
        for function in (touch_of, row_of_touches):
            self.assert_raises("NoMember", {"name": "x"}, function, BOOK, "x", "y")
            self.assert_raises("NoMember", {"name": "y"}, function, BOOK, "ann", "y")
            self.assert_raises("NoMember", {"name": "y"}, function, BOOK, "box", "y")
            self.assert_raises("NoMember", {"name": "x"}, function, BOOK, "x", "box")
            self.assert_raises("NoMember", {"name": "x"}, function, BOOK, "x", "x")
            self.assert_raises("Unfit", {}, function, BOOK, "box", "ann")
            self.assert_raises("Unfit", {}, function, BOOK, "ann", "box")
            self.assert_raises("Unfit", {}, function, BOOK, "box", "box")
        self.assert_raises("Unfit", {}, touch_of, BOOK, "ann", "ann")


class Circles(Rules, unittest.TestCase):
    def test_circles(self):
        for book in books(103, 200) + oracle.small_books()[::2]:
            self.assert_same(circles(book), houses.circles_of(book), book)
        self.assert_same(circles(EMPTY), ())
        self.assert_same(circles(((), ("box",), (("box", "take", "box"),))), ())

    def test_row_of_touches(self):
        lengths = set()
        for book in books(104, 160) + oracle.small_books()[::9]:
            for name in book[0]:
                for other in book[0]:
                    rows = shortest_rows(book, name, other)
                    want = min(rows) if rows else None
                    lengths.add(len(want or ()))
                    self.assert_same(row_of_touches(book, name, other), want, book)
        self.assertLessEqual({0, 1, 2, 3}, lengths)

    def test_the_least_of_the_shortest_rows(self):
        people = ("a", "b", "c", "d", "e", "z")
        pairs = (("a", "e"), ("a", "d"), ("d", "b"), ("e", "b"), ("d", "c"), ("b", "z"), ("c", "z"), ("e", "c"))
        for way in (1, -1):
            book = (people, (), oracle.ascending((p[::way][0], "take", p[::way][1]) for p in pairs))
            if way == 1:
                book = (people, tuple("t" + one + two for one, two in sorted(pairs)), oracle.ascending(
                    [(one, "take", "t" + one + two) for one, two in pairs]
                    + [(two, "hand", "t" + one + two) for one, two in pairs]))
            self.assert_same(row_of_touches(book, "a", "z"), min(shortest_rows(book, "a", "z")))
            self.assert_same(row_of_touches(book, "z", "a"), min(shortest_rows(book, "z", "a")))

    def test_circles_stay_whatever_is_done(self):
        rng = random.Random(105)
        for book in books(105, 60, 4):
            deeds = oracle.random_row(rng, book, 14, True)
            told = oracle.run(book, deeds)[0]
            members = set(book[0] + book[1])
            later = [tuple(name for name in circle if name in book[0]) for circle in circles(told)]
            self.assert_same(oracle.ascending(part for part in later if part), circles(book))
            for circle in circles(book):
                whole = [part for part in circles(told) if set(circle) <= set(part)][0]
                for table in (reach, gifts):
                    ahead = {name for person in circle for name in table(book, person)}
                    after = {name for person in whole for name in table(told, person)}
                    self.assertEqual(ahead, after & members)


class Bounds(Rules, unittest.TestCase):
    def test_a_book_at_the_bounds(self):
        book = oracle.great_book()
        people = book[0]
        self.assert_same(circles(book), (people,))
        self.assert_same(row_of_touches(book, people[0], people[-1]), people)
        self.assert_same(row_of_touches(book, people[-1], people[0]), people[::-1])
        self.assert_same(reach(book, people[4]), oracle.ascending(houses.reach_of(book, people[4])))
        words = [touch_of(book, one, two) for one, two in zip(people, people[1:])]
        self.assert_same(words, [["reaches", "reached", "gives", "given"][k % 4] for k in range(23)])


NAMES = ("ann", "cy", "dan", "box", "x", "")
CALLS = (
    (reach, "book name", [(BOOK, name) for name in NAMES]),
    (gifts, "book name", [(BOOK, name) for name in NAMES]),
    (brought, "book name", [(BOOK, name) for name in NAMES]),
    (touch_of, "book name other", [(BOOK, name, other) for name in NAMES for other in NAMES]),
    (circles, "book", [(BOOK,), (EMPTY,)]),
    (row_of_touches, "book name other", [(BOOK, name, other) for name in NAMES for other in NAMES]),
)


class General(Rules, unittest.TestCase):
    def test_rules_of_all_calls(self):
        self.check_calls(CALLS)


if __name__ == "__main__":
    unittest.main()
