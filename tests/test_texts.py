"""[18], with [2] and [3]: texts written and read."""

import random
import re
import unittest

import houses
import oracle
import ruled
import towns
from rules import Rules, outcome, same
from touchrights.texts import (
    book_text, city_text, deeds_text, house_text, lines_text, read_book, read_city, read_deeds, read_house, read_lines,
)

BOOK = (("ann",), ("box", "key"), (("ann", "take", "box"), ("box", "see", "key")))
BOOK_TEXT = "person ann\nthing box\nthing key\nann take box\nbox see key\n"
DEEDS = (("make", "ann", "new", "thing", ("see", "take")), ("hand", "ann", "box", "see", "new"))
NAME = "[a-z]{1,8}"


# The texts as the tests write them.

def lines_of_book(book):
    lines = [f"person {name}" for name in book[0]] + [f"thing {name}" for name in book[1]]
    return lines + [f"{who} {right} {what}" for who, right, what in book[2]]


def lines_of_lines(edge, lines):
    return lines_of_book((edge[0], edge[1], ())) + [" ".join(line) for line in lines]


def lines_of_deeds(deeds):
    return [" ".join(list(deed[:4]) + (list(deed[4]) if deed[0] == "make" else [deed[4]])) for deed in deeds]


def lines_of_city(city):
    return [line for edge, lines in city for line in ["house"] + lines_of_lines(edge, lines)]


def lines_of_house(house):
    return lines_of_book(house[0]) + [" ".join(("border",) + house[1])]


def text_of(lines):
    return "".join(line + "\n" for line in lines)


# The texts as the tests judge them: whole texts, not line by line. None for what is no such text.

def members_and_rest(lines):
    """The PEOPLE, the THINGS and the lines behind them; None if such a line stands behind others."""
    kinds = "".join("p" if re.fullmatch(f"person {NAME}", line) else "t" if re.fullmatch(f"thing {NAME}", line) else "r"
                    for line in lines)
    if re.fullmatch("p*t*r*", kinds) is None:
        return None
    names = [line.split(" ")[1] for line in lines[:len(kinds.rstrip("r"))]]
    many = kinds.count("p")
    return tuple(names[:many]), tuple(names[many:]), lines[len(names):]


def book_told(lines):
    parts = members_and_rest(lines)
    if parts is None:
        return None
    book = (parts[0], parts[1], tuple(tuple(line.split(" ")) for line in parts[2]))
    return book if oracle.book_ok(book) else None


def lines_told(lines):
    parts = members_and_rest(lines)
    if parts is None or not ruled.edge_ok(parts[:2]):
        return None
    told = tuple(tuple(line.split(" ")) for line in parts[2])
    return (parts[:2], told) if houses.lines_ok(parts[:2], told) else None


def deeds_told(lines):
    deeds = []
    for line in lines:
        words = line.split(" ")
        deed = tuple(words[:4]) + (tuple(words[4:]),) if words[0] == "make" else tuple(words)
        if not oracle.deed_ok(deed):
            return None
        deeds.append(deed)
    return tuple(deeds)


def city_told(lines):
    plots = []
    for line in lines:
        if line == "house":
            plots.append([])
        elif not plots:
            return None
        else:
            plots[-1].append(line)
    told = tuple(lines_told(lot) for lot in plots)
    return None if None in told else told


def cut(text):
    lines = text.split("\n")
    return lines[:-1] if lines[-1] == "" else lines


def judged(told, text):
    """What a reader does with the text: each part of such a text, from the first line on, is one."""
    lines = cut(text)
    for many in range(len(lines) + 1):
        if told(lines[:many]) is None:
            return ("error", "BadLine", (("number", many - 1),))
    return ("value", told(lines))


def judged_house(text):
    lines = cut(text)
    last = lines[-1].split(" ") if lines else [""]
    if last[0] != "border":
        found = judged(book_told, text)
        return found if found[0] == "error" else ("error", "BadLine", (("number", len(lines)),))
    found = judged(book_told, text_of(lines[:-1]))
    if found[0] == "error":
        return found
    house = (found[1], tuple(last[1:]))
    return ("value", house) if houses.house_ok(house) else ("error", "BadLine", (("number", len(lines) - 1),))


READERS = (
    (read_book, lambda text: judged(book_told, text)), (read_house, judged_house),
    (read_lines, lambda text: judged(lines_told, text)), (read_deeds, lambda text: judged(deeds_told, text)),
    (read_city, lambda text: judged(city_told, text)),
)


# Values that are drawn.

def drawn_books(seed, many):
    return oracle.random_books(seed, many, 4)


def drawn_deeds(seed, many):
    rng = random.Random(seed)
    return [oracle.random_row(rng, book, rng.randint(0, 6)) for book in drawn_books(seed, many)]


def drawn_cities(seed, many):
    """Tuples of pairs, be they CITIES or not."""
    rng = random.Random(seed)
    return [tuple(ruled.drawn(rng.randint(0, 10 ** 6), rng.randint(0, 4), 4)) for _ in range(many)]


def drawn_texts(seed, many):
    found = [text_of(lines_of_book(book)) for book in drawn_books(seed, many)]
    found += [text_of(lines_of_house(house)) for house in houses.random_houses(seed, many)]
    found += [text_of(lines_of_lines(*pair)) for pair in ruled.drawn(seed, many, 6)]
    found += [text_of(lines_of_deeds(deeds)) for deeds in drawn_deeds(seed, many)]
    return found + [text_of(lines_of_city(city)) for city in drawn_cities(seed, many)]


WORDS = (
    "person", "thing", "border", "house", "take", "hand", "make", "home", "has", "both", "takes", "ann", "b", "box", "own",
    "abcdefgh", "abcdefghi", "Ann", "", "a1", "a-b", "\u00e4", "a\t", "b\r", "*", "-",
)


def changed(rng, text):
    """The text with one thing or another changed."""
    lines = text.split("\n")
    at = rng.randrange(len(lines))
    words = lines[at].split(" ")
    kind = rng.randint(0, 11)
    if kind == 0:
        lines.insert(at, rng.choice(lines))
    elif kind == 1:
        del lines[at]
    elif kind == 2:
        other = rng.randrange(len(lines))
        lines[at], lines[other] = lines[other], lines[at]
    elif kind == 3:
        words.insert(rng.randint(0, len(words)), rng.choice(WORDS))
    elif kind == 4:
        del words[rng.randrange(len(words))]
    elif kind in (5, 6):
        words[rng.randrange(len(words))] = rng.choice(WORDS)
    elif kind == 7:
        lines.insert(at, "")
    elif kind == 8:
        return text[:-1]
    elif kind == 9:
        lines.insert(rng.randint(0, len(lines)), " ".join(rng.choice(WORDS) for _ in range(rng.randint(1, 4))))
    elif kind == 10:
        words.reverse()
    else:
        return text + rng.choice(("\n", " ", "border\n", "border", "house\n", "thing zz\n", "person zz"))
    if kind in (3, 4, 5, 6, 10):
        lines[at] = " ".join(words)
    return "\n".join(lines)


class Writing(Rules, unittest.TestCase):
    def test_books(self):
        for book in drawn_books(1801, 80) + [((), (), ())]:
            self.assert_same(book_text(book), text_of(lines_of_book(book)), book)

    def test_houses(self):
        for house in houses.random_houses(1802, 80) + [(((), (), ()), ())]:
            self.assert_same(house_text(house), text_of(lines_of_house(house)), house)

    def test_lines(self):
        for edge, lines in ruled.drawn(1803, 100, 6):
            self.assert_same(lines_text(edge, lines), text_of(lines_of_lines(edge, lines)))
            closed = ruled.closure(edge, lines)
            self.assert_same(lines_text(edge, closed), text_of(lines_of_lines(edge, closed)))

    def test_deeds(self):
        for deeds in drawn_deeds(1804, 80):
            self.assert_same(deeds_text(deeds), text_of(lines_of_deeds(deeds)), deeds)
        self.assert_same(deeds_text((("make", "a", "b", "person", ()),)), "make a b person\n")

    def test_cities(self):
        for city in drawn_cities(1805, 60):
            self.assert_same(city_text(city), text_of(lines_of_city(city)), city)
        self.assert_same(city_text(()), "")
        self.assert_same(city_text(((((), ()), ()),) * 2), "house\nhouse\n")

    def test_without_any_look_at_names(self):
        """In LINES with NAMES that are none of the EDGE, DEEDS that can not be done."""
        lines = (("home", "zed", "own", "eve"),)
        self.assert_same(lines_text(((), ("b",)), lines), "thing b\nhome zed own eve\n")
        self.assert_same(deeds_text(DEEDS), "make ann new thing see take\nhand ann box see new\n")


class Back(Rules, unittest.TestCase):
    def check(self, reader, text, value):
        """The text is read back, with and without its last line break."""
        self.assert_same(reader(text), value, text)
        if text not in ("", "\n"):
            self.assert_same(reader(text[:-1]), value, text)

    def test_all_kinds(self):
        for book in drawn_books(1811, 80):
            self.check(read_book, book_text(book), book)
        for house in houses.random_houses(1812, 80):
            self.check(read_house, house_text(house), house)
        for edge, lines in ruled.drawn(1813, 80, 6):
            self.check(read_lines, lines_text(edge, lines), (edge, lines))
        for deeds in drawn_deeds(1814, 80):
            self.check(read_deeds, deeds_text(deeds), deeds)
        for city in drawn_cities(1815, 60):
            self.check(read_city, city_text(city), city)

    def test_texts_of_what_is_read(self):
        """The text of what is read of a text is this text, but for a break that is wanting at the end."""
        writers = {
            read_book: book_text, read_house: house_text, read_deeds: deeds_text, read_city: city_text,
            read_lines: lambda pair: lines_text(*pair),
        }
        rng = random.Random(1816)
        many = 0
        for text in drawn_texts(1816, 60):
            for told in (text, changed(rng, text), changed(rng, changed(rng, text))):
                for reader, writer in writers.items():
                    found = outcome(reader, told)
                    if found[0] == "value":
                        many += 1
                        whole = told if told == "" or told.endswith("\n") else told + "\n"
                        self.assert_same(writer(found[1]), whole, told)
        self.assertGreater(many, 300)

    def test_no_lines(self):
        self.assert_same(read_book(""), ((), (), ()))
        self.assert_same(read_lines(""), (((), ()), ()))
        self.assert_same(read_deeds(""), ())
        self.assert_same(read_city(""), ())
        self.assert_raises("BadLine", {"number": 0}, read_house, "")
        self.assert_same(read_house("border"), (((), (), ()), ()))
        self.assert_same(read_house("border\n"), (((), (), ()), ()))
        self.assert_same(read_city("house"), ((((), ()), ()),))
        for reader, _ in READERS:
            self.assert_raises("BadLine", {"number": 0}, reader, "\n")
            self.assert_raises("BadLine", {"number": 0}, reader, "\n\n")


class Bad(Rules, unittest.TestCase):
    def test_changed_texts(self):
        rng = random.Random(1821)
        numbers, good = set(), 0
        for text in drawn_texts(1821, 90):
            for _ in range(6):
                told = changed(rng, text)
                if rng.random() < 0.3:
                    told = changed(rng, told)
                for reader, judge in READERS:
                    want = judge(told)
                    good += want[0] == "value"
                    numbers.add(want[2][0][1] if want[0] == "error" else None)
                    self.assertTrue(same(outcome(reader, told), want), (reader.__name__, told, want))
        self.assertGreater(good, 250)
        self.assertLessEqual(set(range(9)), numbers)

    def check(self, reader, number, *lines):
        """The line with this number is the first bad one; those ahead of it are not."""
        text = text_of(lines)
        self.assert_raises("BadLine", {"number": number}, reader, text)
        if lines[-1] != "":
            self.assert_raises("BadLine", {"number": number}, reader, text[:-1])

    def test_words_and_blanks(self):
        good = ("person ann", "thing box", "ann take box")
        for line in ("", " ", "ann take", "ann take box box", "ann  take box", " ann take box", "ann take box ", "ann take boxy",
                     "Ann take box", "ann abcdefghi box", "ann Take box", "ann ta1e box", "ann take box\t", "ann\ttake box",
                     "ann take box\r", "person", "thing", "person ann", "person cy", "thing box", "thing key", "border",
                     "border box", "house", "ann take box", "ann own box", "box\u00e4 own box", "ann \u00e4 box"):
            self.check(read_book, 3, *good, line)
            self.check(read_book, 3, *good, line, "", "nonsense")
        for line in ("person abcdefghi", "person", "person ann bob", "person  ann", "person ann ", "Person ann", "people ann"):
            self.check(read_book, 0, line, "thing box")
        self.assert_same(read_book("person abcdefgh\nabcdefgh abcdefgh abcdefgh"), (
            ("abcdefgh",), (), (("abcdefgh",) * 3,)))

    def test_order(self):
        self.check(read_book, 1, "person bob", "person ann")
        self.check(read_book, 1, "person ann", "person ann")
        self.check(read_book, 2, "person ann", "thing key", "thing box")
        self.check(read_book, 1, "thing box", "person ann")
        self.check(read_book, 1, "person box", "thing box")
        self.check(read_book, 2, "thing box", "box own box", "thing key")
        self.check(read_book, 2, "thing box", "box see box", "box own box")
        self.check(read_book, 2, "thing box", "box see box", "box see box")
        self.assert_same(read_book("person bob\nthing ann\nann own bob"), (("bob",), ("ann",), (("ann", "own", "bob"),)))

    def test_holds_of_others(self):
        self.check(read_book, 1, "thing box", "box own key")
        self.check(read_book, 1, "thing box", "key own box")
        self.check(read_book, 1, "thing box", "ann see ann", "person ann")
        self.assert_same(read_book("person person\nperson person person"), (
            ("person",), (), (("person", "person", "person"),)))

    def test_houses(self):
        self.check(read_house, 1, "thing box")
        self.check(read_house, 2, "thing box", "box own box")
        self.check(read_house, 1, "thing box", "border key")
        self.check(read_house, 1, "thing box", "border box box")
        self.check(read_house, 2, "thing box", "thing key", "border key box")
        self.check(read_house, 1, "thing box", "border", "border")
        self.check(read_house, 1, "thing box", "border box", "box own box")
        self.check(read_house, 1, "thing box", "border Box")
        self.check(read_house, 1, "thing box", "border ")
        self.check(read_house, 1, "thing box", "border  box")
        self.check(read_house, 1, "thing box", "borders box")
        self.check(read_house, 1, "thing box", " border box")
        self.check(read_house, 2, "thing border", "border own border", "border own border")
        self.check(read_house, 1, "thing border", "border see border")
        self.check(read_house, 1, "thing box", "", "border box")
        self.check(read_house, 0, "box own box", "border key")
        self.check(read_house, 0, "thing", "thing box")
        self.assert_same(read_house("thing border\nthing see\nborder see border\nborder border see"), (
            ((), ("border", "see"), (("border", "see", "border"),)), ("border", "see")))
        self.assert_raises("BadLine", {"number": 1}, read_house, "thing box\nborder box\n\n")

    def test_lines(self):
        self.check(read_lines, 1, "thing b", "takes b b")
        self.check(read_lines, 1, "thing b", "has b take b")
        self.check(read_lines, 2, "thing b", "thing c", "meets c b")
        self.check(read_lines, 2, "thing b", "thing c", "both c b")
        self.check(read_lines, 2, "thing b", "thing c", "flows c c")
        self.check(read_lines, 1, "thing b", "home b see c", "thing c")
        self.check(read_lines, 1, "thing b", "home b see")
        self.check(read_lines, 1, "thing b", "hands b own b")
        self.check(read_lines, 1, "thing b", "homes b own b")
        self.check(read_lines, 2, "thing b", "home b see b", "both b b")
        self.check(read_lines, 2, "thing b", "both b b", "both b b")
        self.check(read_lines, 2, "thing b", "both b b", "thing c")
        self.check(read_lines, 0, "b own b")
        self.check(read_lines, 0, "house")
        self.assert_same(read_lines("person home\nhome home home home"), (
            (("home",), ()), (("home", "home", "home", "home"),)))

    def test_deeds(self):
        for line in ("take ann box own", "take ann box own key key", "give ann box own key", "make ann new", "", "make ann new pet",
                     "make ann new thing take see", "make ann new thing see see", "make ann new thing see ", "make ann new thing  see",
                     "make ann new thing *", "make ann new thing own+see", "take ann box own Key", "hand ann box own abcdefghi", "take"):
            self.check(read_deeds, 1, "make ann new thing", line)
            self.check(read_deeds, 0, line, line)
        self.assert_same(read_deeds("make take make person make take"), (
            ("make", "take", "make", "person", ("make", "take")),))

    def test_cities(self):
        self.check(read_city, 0, "thing b")
        self.check(read_city, 0, "house ", "thing b")
        self.check(read_city, 0, "house b")
        self.check(read_city, 1, "house", "both b b", "thing b")
        self.check(read_city, 3, "house", "thing b", "house", "both b b")
        self.check(read_city, 3, "house", "thing c", "house", "thing C")
        self.check(read_city, 2, "house", "thing c", "thing b")
        told = (((("b",), ()), ()), (((), ("b",)), ()), (((), ()), ()))
        self.assert_same(read_city("house\nperson b\nhouse\nthing b\nhouse\n"), told)
        self.assert_same(read_city("house\nperson house\nboth house house"), (((("house",), ()), (("both", "house", "house"),)),))

    def test_any_string(self):
        for text in ("\r", "\n ", " ", "\x0b", "person ann\r\n", "person ann\x0bthing box", "\u2028", "person ann\u2028", "\x00", "a" * 5000):
            for reader, judge in READERS:
                self.assertTrue(same(outcome(reader, text), judge(text)), (reader.__name__, text))
                self.assertEqual(judge(text)[0], "error")


class Bounds(Rules, unittest.TestCase):
    def test_sixty_lines_of_long_words(self):
        names = tuple("abcdefg" + sign for sign in "abcdefghijklmnopqrstuvwx")
        book = (names[:12], names[12:], tuple(sorted((name, "abcdefgh", other) for name in names[:6] for other in names[:6])))
        text = book_text(book)
        self.assertEqual(len(text.split("\n")), 61)
        self.assert_same(read_book(text), book)
        self.assert_raises("BadLine", {"number": 60}, read_book, text + " ".join(["a" * 8] * 44))
        house = ((names[:12], names[12:], book[2][:35]), names[::6])
        self.assert_same(read_house(house_text(house)), house)
        deeds = tuple(("make", name, other, "person", names) for name in names[:10] for other in names[:6])
        self.assert_same(read_deeds(deeds_text(deeds)), deeds)

    def test_great_values(self):
        book = oracle.great_book()
        self.assert_same(read_book(book_text(book)), book)
        edge = (("a", "c"), ("b", "d"))
        lines = houses.all_lines(edge, ("hand", "own", "see", "take", "use"))
        self.assert_same(read_lines(lines_text(edge, lines)), (edge, lines))
        self.assert_same(read_city(city_text(((edge, lines),) * 6)), ((edge, lines),) * 6)
        self.assertEqual(towns.edge_of_city(((edge, lines),) * 6), edge)


PAIR = (((), ("b", "c")), (("has", "b", "see", "c"), ("takes", "b", "c")))
TEXTS = ("", "\n", BOOK_TEXT, BOOK_TEXT + "border box\n", "house\nthing b\n", "take ann box own key", "thing b\nhome b see b")
CALLS = (
    (book_text, "book", [(BOOK,), (((), (), ()),)]),
    (house_text, "house", [((BOOK, ("box",)),), ((BOOK, ()),)]),
    (lines_text, "edge lines", [PAIR, (((), ()), ())]),
    (deeds_text, "deeds", [(DEEDS,), ((),)]),
    (city_text, "city", [((PAIR, PAIR),), ((),)]),
) + tuple((reader, "text", [(text,) for text in TEXTS]) for reader, _ in READERS)


class General(Rules, unittest.TestCase):
    def test_rules_of_all_calls(self):
        self.check_calls(CALLS)


if __name__ == "__main__":
    unittest.main()
