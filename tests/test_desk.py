"""[20], with [2] and [3]: requests, and the replies to them."""

import random
import re
import unittest

import boards
import oracle
import ruled
import towns
from rules import ODD, Rules, near_misses
from touchrights.desk import is_request, replies

NEAR = (("ann", "bob"), ("box", "key"), (("bob", "hand", "box"), ("bob", "own", "key")))
HOUSES = ((NEAR, ("box", "key")), ((("cy",), ("box", "key"), (("cy", "take", "box"),)), ("box", "cy", "key")))


# Requests as the tests judge and write them.

NAME, NUMBER = "[a-z]{1,8}", "(?:0|[1-9][0-9]*)"
HOLD = f"{NAME} {NAME} {NAME}"
RIGHTS = rf"(?:\*|{NAME}(?:\+{NAME})*)"
DEED = f"(?:(?:take|hand) {NAME} {NAME} {NAME} {NAME}|make {NAME} {NAME} (?:person|thing) {RIGHTS})"
LINE = f"(?:(?:home|has|puts) {NAME} {NAME} {NAME}|(?:takes|hands|meets|flows|both) {NAME} {NAME})"
LINES = f"(?:-|{LINE}(?: / {LINE})*)"
REQUEST = "|".join((
    f"act {NUMBER} {DEED}", f"(?:let|strike) {NUMBER} {HOLD}", f"(?:cover|uncover) {NAME}", f"vow {NUMBER} {LINES}",
    f"(?:free|page|broken|holds) {NUMBER}", f"(?:note|lets) {HOLD}",
    "undo", "front", "opened", "shut", "covered", "kept", "strange", "notes", "deeds",
))


def ascends(rows):
    return list(rows) == sorted(set(rows))


def request_ok(thing):
    if type(thing) is not str or re.fullmatch(REQUEST, thing) is None:
        return False
    words = thing.split(" ")
    if words[0] == "act" and words[2] == "make" and words[-1] != "*":
        return ascends(words[-1].split("+"))
    if words[0] == "vow" and words[2] != "-":
        return ascends([tuple(part.split(" ")) for part in thing.split(" ", 2)[2].split(" / ")])
    return True


def written(rows, sign=" / "):
    return sign.join(rows) if rows else "-"


def in_rows(rows):
    return written([" ".join(row) for row in rows])


def written_deed(deed):
    return " ".join(deed[:4] + (written(deed[4], "+").replace("-", "*") if deed[0] == "make" else deed[4],))


def request_for(word, args):
    """The request for a deed of a board."""
    if word == "act":
        return f"act {args[0]} {written_deed(args[1])}"
    if word in ("let_in", "strike"):
        return f"{word.split('_')[0]} {args[0]} {' '.join(args[1])}"
    if word == "vow":
        return f"free {args[0]}" if args[1] is None else f"vow {args[0]} {in_rows(args[1])}"
    if word == "note":
        return f"note {' '.join(args[0])}"
    return " ".join((word,) + args)


# The desk of the tests.

def lines_asked(model, word, number):
    if word in ("page", "broken"):
        return getattr(model, word)(number)
    return model.front()[1] if word == "front" else getattr(model, word)()


def answer(model, words):
    word, number = words[0], int(words[1]) if len(words) == 2 and words[1].isdigit() else None
    if word in ("page", "broken", "front", "opened", "shut"):
        return in_rows(lines_asked(model, word, number))
    if word == "lets":
        return "yes" if model.lets(tuple(words[1:])) else "no"
    if word == "covered":
        return written(model.covered(), " ")
    if word in ("kept", "strange"):
        return written([str(place) for place in getattr(model, word)()], " ")
    if word == "notes":
        return in_rows(model.notes())
    if word == "holds":
        model.need_number(number)
        return in_rows(model.parts()[number][0][2])
    return str(len(model.earlier))


def reply(model, line):
    words = line.split(" ")
    try:
        if words[0] == "act":
            rights = () if words[-1] == "*" else tuple(words[-1].split("+"))
            deed = tuple(words[2:6]) + ((rights if words[2] == "make" else words[6]),)
            model.act(int(words[1]), deed)
        elif words[0] in ("let", "strike"):
            (model.let_in if words[0] == "let" else model.strike)(int(words[1]), tuple(words[2:]))
        elif words[0] in ("cover", "uncover"):
            getattr(model, words[0])(words[1])
        elif words[0] == "vow":
            parts = line.split(" ", 2)[2].split(" / ")
            model.vow(int(words[1]), () if parts == ["-"] else tuple(tuple(part.split(" ")) for part in parts))
        elif words[0] == "free":
            model.vow(int(words[1]), None)
        elif words[0] == "note":
            model.note(tuple(words[1:]))
        elif words[0] == "undo":
            model.undo()
        else:
            return answer(model, words)
    except boards.Refused as error:
        return "refused " + error.args[0]
    return "done"


def replied(town, text):
    """What the desk of the tests gives."""
    if not boards.fits_together(town):
        return ("error", "Unfit", ())
    lines = text.split("\n") if text else []
    for number, line in enumerate(lines):
        if not request_ok(line):
            return ("error", "BadLine", (("number", number),))
    model = boards.Model(town)
    return ("value", [reply(model, line) for line in lines])


def random_question(rng, model):
    number = rng.choice((0, 0, 1, len(model.now[0])))
    words = ["front", "opened", "shut", "covered", "kept", "strange", "notes", "deeds", "undo"]
    words += [f"{word} {number}" for word in ("page", "broken", "holds", "free")]
    words += ["lets " + " ".join(boards.random_hold(rng, model.edge_names()))] * 3
    return rng.choice(words)


def random_text(rng, town, many):
    """Requests, the later ones drawn for the board behind the earlier ones."""
    model, lines = boards.Model(town), []
    for _ in range(many):
        line = random_question(rng, model)
        if rng.random() < 0.6:
            word, args = boards.random_deed(rng, model)
            if not args or not isinstance(args[0], int) or args[0] >= 0:
                line = request_for(word, args)
        if request_ok(line) and not (line.startswith("note") and len(model.now[3]) >= 6):
            lines.append(line)
            reply(model, line)
    return "\n".join(lines)


GOOD = (
    "act 0 take ann box own key", "act 1 hand cy box own key", "act 0 make ann zed thing own+see", "act 7 make a b person *",
    "act 0 make take hand thing make", "let 0 ann take key", "strike 12 ann take key", "cover box", "uncover abcdefgh", "vow 0 -",
    "vow 0 both key key / puts key take key", "vow 1 home a b c", "vow 0 both b a", "vow 0 takes b b / takes c c", "free 0", "note a b c",
    "undo", "page 0", "broken 10", "front", "opened", "shut", "lets a b c", "covered", "kept", "strange", "notes", "holds 3", "deeds",
    "free " + "9" * 300, "page 1000000000000000000000", "note take hand make", "lets vow act undo",
)
BAD = (
    "", " ", "act", "act 0", "act 0 take ann box own", "act 0 take ann box own key key", "act 0 give a b c d", "act take ann box own key",
    "act 0 make ann b thing own+a", "act 0 make ann b thing own+own", "act 0 make ann b thing", "act 0 make ann b thing own see",
    "act 0 make ann b pet *", "act 0 make ann b thing +", "act 0 make ann b thing *+own", "act 0 make ann b thing own+", "act 0 make ann b thing -",
    "act 0 make ann b thing **", "act 0 make ann b thing own++see", "let 0 ann take", "let ann take key", "let_in 0 ann take key",
    "let 0 ann take key now", "cover", "cover a b", "cover A", "cover abcdefghi", "cover 0", "uncover", "vow 0", "vow -", "vow 0 - / -",
    "vow 0 - / both a a", "vow 0 has box own key / has box own key", "vow 0 puts key take key / both key key", "vow 0 both key key /",
    "vow 0 / both key key", "vow 0 both key key/ puts key take key", "vow 0 both key", "vow 0 home a b", "vow 0 both a b c", "vow 0 sees a b",
    "vow 0 both key key  / puts key take key", "vow 0 both key key puts key take key", "vow 0 both key key / / puts key take key", "free",
    "free 0 0", "note a b", "note a b c d", "undo 0", "undo undo", "page", "page a", "page 00", "page 01", "page -1", "page +1", "page 1.0",
    "page 0 ", " page 0", "page  0", "page \u0661", "page \u00b2", "page 1\n", "front\n", "front 0", "fronts", "Front", "opened ", "shut 0", "lets a b", "lets",
    "covered box", "kept 0", "strange 0", "notes 0", "holds", "deeds 0", "vows", "town", "parts", "twin", "lets a b \u00e4", "cover b\u00f6x", "\n",
    "front\nfront", "\tfront", "front\r", "page 0x1", "page 1_0", "act 00 take ann box own key", "page 1e1", "vow 0 *", "strike 0", "strike 0 a b",
)


class Shapes(Rules, unittest.TestCase):
    def test_good_and_bad(self):
        for thing in GOOD:
            self.assertTrue(request_ok(thing), thing)
            self.assertIs(is_request(thing), True, thing)
        for thing in BAD:
            self.assertFalse(request_ok(thing), thing)
            self.assertIs(is_request(thing), False, thing)

    def test_values_of_all_kinds(self):
        for thing in list(ODD) + list(GOOD) + [GOOD, list(GOOD), ("front",), ["front"], b"front"[:0].decode()]:
            self.assert_same(is_request(thing), request_ok(thing), thing)
        for thing in near_misses(("front", "undo")):
            self.assertIs(is_request(thing), request_ok(thing))

    def test_a_sign_more_less_another_one(self):
        signs = " a0/-+*\nZ9z\u00e4\t"
        good = 0
        for line in GOOD:
            things = [line[:at] + line[at + 1:] for at in range(min(len(line), 60))]
            for at in range(min(len(line), 60) + 1):
                things += [line[:at] + sign + line[at:] for sign in signs]
                things += [line[:at] + sign + line[at + 1:] for sign in signs]
            for thing in things:
                good += request_ok(thing)
                self.assert_same(is_request(thing), request_ok(thing), repr(thing))
        self.assertGreater(good, 1000)

    def test_words_changed(self):
        rng = random.Random(2001)
        words = sorted({word for line in GOOD for word in line.split(" ")} | {"", "*", "A", "own+a", "01", "abcdefghi"})
        seen = {True: 0, False: 0}
        for _ in range(8000):
            parts = rng.choice(GOOD).split(" ")
            for _ in range(rng.randint(1, 2)):
                kind, at = rng.randint(0, 3), rng.randrange(len(parts))
                if kind == 0:
                    parts.insert(at, rng.choice(words))
                elif kind == 1 and len(parts) > 1:
                    del parts[at]
                else:
                    parts[at] = rng.choice(words)
            thing = " ".join(parts)
            seen[request_ok(thing)] += 1
            self.assert_same(is_request(thing), request_ok(thing), repr(thing))
        self.assertGreater(min(seen.values()), 700)

    def test_however_many_figures(self):
        for many in (1, 9, 10, 400, 5000, 20000):
            self.assertIs(is_request("page 1" + "0" * many), True)
            self.assertIs(is_request("page 0" + "1" * many), False)
        self.assert_same(replies(HOUSES, "page 1" + "0" * 390 + "\nfree " + "1" * 390), ["refused NoNumber"] * 2)
        self.assert_same(replies(HOUSES, "holds 10000000000\nlet 1000000000 a b c\nact 4294967296 take a b c d"), [
            "refused NoNumber"] * 3)


class Replies(Rules, unittest.TestCase):
    def test_each_request_with_each_reply(self):
        rng = random.Random(2011)
        seen = set()
        for number in range(110):
            town = boards.random_town(rng, (1, 2, 2, 3)[number % 4])
            text = random_text(rng, town, 24)
            want = replied(town, text)
            self.assertEqual(want[0], "value")
            for line, told in zip(text.split("\n"), want[1]):
                kind = told if told.startswith("refused") or told in ("done", "yes", "no", "-") else "told"
                seen.add((line.split(" ")[0], kind))
            self.assert_same(replies(town, text), want[1], (town, text))
        for word, kinds in {
            "act": "done Unfit Twice NoNumber", "let": "done NoMember NoNumber", "strike": "done NoHold NoNumber", "cover": "done NoMember",
            "uncover": "done NoMember", "vow": "done NoMember Unfit NoNumber", "free": "done NoNumber", "note": "done NoMember",
            "undo": "done NothingDone", "page": "told - NoNumber", "broken": "told - NoNumber", "front": "told -", "opened": "told -",
            "shut": "told -", "lets": "yes no NoMember", "covered": "told -", "kept": "told -", "strange": "told -", "notes": "told -",
            "holds": "told NoNumber", "deeds": "told",
        }.items():
            for kind in kinds.split(" "):
                kind = kind if kind in ("done", "yes", "no", "-", "told") else "refused " + kind
                self.assertIn((word, kind), seen)

    def test_refused_requests_change_nothing(self):
        text = "cover box\nact 0 make ann cy thing *\nact 0 take ann box own key\nlet 0 zed own box\nstrike 0 ann own box\n" \
            "cover ann\nuncover ann\nvow 0 flows box key\nvow 0 flows box zed\nvow 2 -\nfree 9\nnote ann own box\ndeeds\ncovered\nundo\nundo\ndeeds"
        want = ["done", "refused Twice", "refused Unfit", "refused NoMember", "refused NoHold", "refused NoMember", "refused NoMember",
                "refused Unfit", "refused NoMember", "refused NoNumber", "refused NoNumber", "refused NoMember", "1", "box", "done",
                "refused NothingDone", "0"]
        self.assert_same(replies(HOUSES, text), want)
        self.assert_same(("value", want), replied(HOUSES, text))

    def test_what_is_written(self):
        text = "notes\nnote cy own key\nnote key see box\nnotes\nholds 1\nstrike 1 cy take box\nholds 1\nstrange\ncover key\ncover cy\ncovered\nkept\n" \
            "vow 0 -\nvow 1 both cy cy / hands cy cy / meets cy cy\nkept\nbroken 1\nact 1 make cy kid person hand+take\nholds 1\nfree 1\nkept\ndeeds"
        self.assert_same(replies(HOUSES, text), [
            "-", "done", "done", "cy own key / key see box", "cy take box", "done", "-", "0 1", "done", "done", "cy key", "-", "done", "done",
            "1", "-", "done", "cy hand kid / cy take kid", "done", "-", "9"])
        self.assert_same(("value", replies(HOUSES, text)), replied(HOUSES, text))

    def test_nothing_is_kept_from_one_call_to_the_next(self):
        for _ in range(2):
            self.assert_same(replies(HOUSES, "deeds\ncover box\ndeeds"), ["0", "done", "1"])
        one, two = replies(HOUSES, "deeds"), replies(HOUSES, "deeds")
        one.append("more")
        self.assertEqual(two, ["0"])


class Errors(Rules, unittest.TestCase):
    def test_lines_that_are_no_requests(self):
        rng = random.Random(2021)
        for bad in [line for line in BAD if "\n" not in line]:
            for number in range(3):
                lines = [rng.choice(("front", "deeds", "cover box")) for _ in range(number)] + [bad] + ["nonsense"] * rng.randint(0, 2)
                text = "\n".join(lines)
                if text:
                    want = replied(HOUSES, text)
                    self.assertEqual(want[1], "BadLine")
                    self.assert_raises("BadLine", {"number": want[2][0][1]}, replies, HOUSES, text)

    def test_line_feeds(self):
        self.assert_same(replies(HOUSES, ""), [])
        self.assert_raises("BadLine", {"number": 1}, replies, HOUSES, "front\n")
        self.assert_raises("BadLine", {"number": 0}, replies, HOUSES, "\n")
        self.assert_raises("BadLine", {"number": 0}, replies, HOUSES, "\nfront")
        self.assert_raises("BadLine", {"number": 1}, replies, HOUSES, "front\n\nfront")
        self.assert_raises("BadLine", {"number": 0}, replies, HOUSES, "front\r\nfront")
        self.assert_raises("BadLine", {"number": 0}, replies, HOUSES, "front\x0bfront")
        self.assert_raises("BadLine", {"number": 0}, replies, HOUSES, " ")

    def test_unfit_ahead_of_bad_lines_ahead_of_all_replies(self):
        twice = (HOUSES[0], HOUSES[0])
        for text in ("", "front", "nonsense", "\n"):
            self.assert_raises("Unfit", {}, replies, twice, text)
        self.assert_raises("BadLine", {"number": 2}, replies, HOUSES, "cover box\nundo\nundoes\nundo")
        self.assert_raises("BadLine", {"number": 1}, replies, HOUSES, "act 9 take a b c d\npage 01")


class Bounds(Rules, unittest.TestCase):
    def test_sixty_lines(self):
        rng = random.Random(2031)
        for sign in "xy":
            town = tuple(towns.house_at_bounds(rng, ("a", "c"), ("m", "n"), sign + other) for other in "uvw")
            lines = ["front", "page 0", "page 1", "page 2", "kept", "strange", "lets a see n", "lets m use c", "note a see n", "strange",
                     "vow 1 " + in_rows(ruled.closure((("a", "c"), ("m", "n")), ())), "kept", "broken 1", "strange", "covered"]
            for place, house in enumerate(town):
                lines += [f"strike {place} " + " ".join(house[0][2][5 * place]), "opened", "shut", f"holds {place}"]
            lines += ["cover a", "front", "shut", "uncover a", "opened", "undo", "undo", "deeds", "notes", "cover m", "cover n", "covered", "front"]
            text = "\n".join(lines)
            self.assert_same(replies(town, text), replied(town, text)[1])

    def test_four_hundred_signs(self):
        edge = ((), ("key", "lid"))
        lines = towns.full(edge, ("own",))[1]
        text = "vow 0 " + in_rows(lines)
        self.assertGreater(len(text), 400)
        house = (((), ("key", "lid"), ()), ("key", "lid"))
        self.assert_same(replies((house,), text + "\nkept\nbroken 0"), ["done", "0", "-"])
        self.assert_same(replies((house,), text[:-3] + "zed"), ["refused NoMember"])


CALLS = (
    (is_request, "thing", [(thing,) for thing in ("front", "fronts", 7, ("front",), ["front"])]),
    (replies, "houses text", [(town, text) for town in (HOUSES, HOUSES[:1], (HOUSES[0], HOUSES[0])) for text in (
        "", "front", "front\n", "cover box\nlets box own box\nkept\nvow 0 -\nbroken 0\nundo\nact 0 hand bob box own key")]),
)


class General(Rules, unittest.TestCase):
    def test_rules_of_all_calls(self):
        self.check_calls(CALLS)

    def test_the_writing_of_the_tests(self):
        self.assertEqual(written_deed(("make", "a", "b", "thing", ())), "make a b thing *")
        self.assertEqual(written_deed(("make", "a", "b", "thing", ("own", "see"))), "make a b thing own+see")
        self.assertEqual(request_for("vow", (0, ())), "vow 0 -")
        self.assertEqual(oracle.deed_ok(("make", "a", "b", "thing", ("own", "see"))), True)


if __name__ == "__main__":
    unittest.main()
