"""[19], with [2] and [3]: a Board, held against HOUSES that the tests keep."""

import ast
import copy
import inspect
import pathlib
import random
import unittest

import boards
import houses
import oracle
import ruled
import towns
from rules import CHANGES, ODD, Rules, has_list, outcome, same
from touchrights.board import Board

NEAR = (("ann", "bob"), ("box", "key"), (("bob", "hand", "box"), ("bob", "own", "key")))
FAR = (("cy",), ("box", "key"), (("cy", "take", "box"),))
HOUSES = ((NEAR, ("box", "key")), (FAR, ("box", "cy", "key")))
OWN, TIE = ("cy", "own", "key"), ("ann", "take", "key")
HAND = ("hand", "bob", "box", "own", "key")
PLAIN = ("parts", "covered", "vows", "notes", "town", "front", "kept", "opened", "shut", "strange")
DEEDS = {
    "act": ("number", "deed"), "let_in": ("number", "hold"), "strike": ("number", "hold"), "cover": ("name",),
    "uncover": ("name",), "vow": ("number", "lines"), "note": ("hold",), "undo": (),
}
QUESTIONS = {"page": ("number",), "lets": ("hold",), "broken": ("number",), **{name: () for name in PLAIN}}


class Checks(Rules):
    def check_questions(self, board, model, rng):
        """Each question at the Board, held against the HOUSES that the test keeps."""
        for name in PLAIN:
            self.assert_same(getattr(board, name)(), getattr(model, name)(), (name, model.now))
        self.assertEqual(len(board), len(model.earlier))
        for number in range(-1, len(model.now[0]) + 1):
            for name in ("page", "broken"):
                want = boards.outcome(getattr(model, name), number)
                self.assert_same(outcome(getattr(board, name), number), want, (name, number, model.now))
        names = model.edge_names()
        for _ in range(4):
            hold = boards.random_hold(rng, names)
            want = boards.outcome(model.lets, hold)
            self.assert_same(outcome(board.lets, hold), want, (hold, model.now))

    def check_deed(self, board, model, word, args):
        got = outcome(getattr(board, word), *args)
        want = boards.outcome(getattr(model, word), *args)
        self.assert_same(got, want, (word, args, model.now))
        return want

    def answers(self, board):
        """All that a Board tells, to be compared."""
        pages = [outcome(getattr(board, name), number) for name in ("page", "broken") for number in range(-1, 4)]
        return [getattr(board, name)() for name in PLAIN] + pages + [len(board)]


class Played(Checks, unittest.TestCase):
    def test_each_deed_and_each_question(self):
        rng = random.Random(1901)
        seen = {}
        for number in range(60):
            town = boards.random_town(rng, (1, 2, 2, 3)[number % 4])
            board, model = Board(town), boards.Model(town)
            self.check_questions(board, model, rng)
            for _ in range(12):
                word, args = boards.random_deed(rng, model)
                found = self.check_deed(board, model, word, args)
                key = (word, found[1])
                seen[key] = seen.get(key, 0) + 1
                self.check_questions(board, model, rng)
        for key in (
            ("act", None), ("act", "Unfit"), ("act", "Twice"), ("act", "NoNumber"), ("let_in", None), ("let_in", "NoMember"),
            ("let_in", "NoNumber"), ("strike", None), ("strike", "NoHold"), ("strike", "NoMember"), ("strike", "NoNumber"),
            ("cover", None), ("cover", "NoMember"), ("uncover", None), ("uncover", "NoMember"), ("vow", None), ("vow", "Unfit"),
            ("vow", "NoMember"), ("vow", "NoNumber"), ("note", None), ("note", "NoMember"), ("undo", None),
            ("undo", "NothingDone"),
        ):
            self.assertIn(key, seen)

    def test_what_the_questions_tell(self):
        """The games that are drawn bring answers of many kinds."""
        rng = random.Random(1902)
        seen = {name: 0 for name in ("kept", "broken", "opened", "shut", "strange", "lets", "hidden")}
        for number in range(60):
            town = boards.random_town(rng, (1, 2, 3)[number % 3])
            board, model = Board(town), boards.Model(town)
            for _ in range(10):
                self.check_deed(board, model, *boards.random_deed(rng, model))
                for name in ("kept", "opened", "shut", "strange"):
                    seen[name] += getattr(board, name)() != ()
                seen["broken"] += any(board.broken(place) for place in range(len(town)))
                seen["lets"] += any(board.lets(hold) for hold in towns.all_holds(towns.edge_of_all(town), ("own", "take")))
                seen["hidden"] += len(board.front()[1]) < len(towns.told(board.town()))
        self.assertGreater(min(seen.values()), 30, seen)

    def test_undo_one_by_one(self):
        rng = random.Random(1903)
        for number in range(40):
            town = boards.random_town(rng, (1, 2, 3)[number % 3])
            board, model = Board(town), boards.Model(town)
            first, states = self.answers(board), []
            for _ in range(12):
                word, args = boards.random_deed(rng, model)
                before = self.answers(board)
                if word != "undo" and self.check_deed(board, model, word, args)[0] == "value":
                    states.append(before)
            self.assertEqual(len(board), len(states))
            while states:
                self.assert_same(board.undo(), None)
                model.undo()
                self.assert_same(self.answers(board), states.pop())
            self.assert_same(self.answers(board), first)
            self.assert_raises("NothingDone", {}, board.undo)
            self.assert_raises("NothingDone", {}, board.undo)
            self.assertTrue(board == Board(town))

    def test_deeds_that_change_nothing_count(self):
        board = Board(HOUSES)
        board.let_in(0, ("bob", "own", "key"))
        board.uncover("box")
        board.vow(0, None)
        board.cover("box")
        board.cover("box")
        self.assertEqual(len(board), 5)
        self.assertEqual(board.covered(), ("box",))
        board.undo()
        self.assertEqual((len(board), board.covered()), (4, ("box",)))
        board.undo()
        self.assertEqual((len(board), board.covered()), (3, ()))
        self.assertTrue(board == Board(HOUSES))
        for word, args in (("act", (0, HAND)), ("act", (0, HAND))):
            self.assert_same(outcome(getattr(board, word), *args), ("value", None))
        self.assertEqual(len(board), 5)

    def test_opened_and_shut_are_those_of_the_last_deed_that_is_left(self):
        board = Board(HOUSES)
        self.assertEqual((board.opened(), board.shut()), ((), ()))
        board.let_in(0, TIE)
        opened = board.opened()
        self.assertNotEqual(opened, ())
        board.act(0, HAND)
        self.assertEqual((board.opened(), board.shut()), ((), ()))
        board.undo()
        self.assertEqual(board.opened(), opened)
        board.strike(0, TIE)
        self.assertEqual((board.opened(), board.shut()), ((), opened))
        board.cover("box")
        self.assertEqual(board.opened(), ())
        self.assertTrue(all("box" in line for line in board.shut()))
        board.uncover("box")
        self.assertEqual(board.shut(), ())
        self.assertTrue(board.opened() and all("box" in line for line in board.opened()))
        for _ in range(4):
            board.undo()
        self.assertEqual((board.opened(), board.shut(), len(board)), ((), (), 0))


class Guarantees(Checks, unittest.TestCase):
    def test_a_deed_done_in_a_house_turns_no_letter(self):
        rng = random.Random(1911)
        done = 0
        for number in range(60):
            town = boards.random_town(rng, (1, 2, 3)[number % 3])
            board = Board(town)
            for place in range(len(town)):
                board.vow(place, board.page(place))
            pages, front = [board.page(place) for place in range(len(town))], board.front()
            for _ in range(8):
                place = rng.randrange(len(town))
                deed = oracle.random_deed(rng, board.parts()[place][0])
                if outcome(board.act, place, deed)[0] == "value":
                    done += 1
                    self.assertEqual((board.opened(), board.shut()), ((), ()))
                    self.assertEqual(board.kept(), tuple(range(len(town))))
                    self.assertEqual([board.page(place) for place in range(len(town))], pages)
                    self.assertEqual(board.front(), front)
        self.assertGreater(done, 150)

    def test_more_and_less(self):
        rng = random.Random(1912)
        opened = shut = 0
        for number in range(60):
            town = boards.random_town(rng, (1, 2, 3)[number % 3])
            board = Board(town)
            for name in towns.names_of(towns.edge_of_all(town))[:number % 3]:
                board.cover(name)
            for place, (book, _) in enumerate(town):
                board.let_in(place, (rng.choice(book[0] + book[1]), rng.choice(("hand", "take")), rng.choice(book[0] + book[1])))
                self.assertEqual(board.shut(), ())
                opened += board.opened() != ()
                board.strike(place, rng.choice(board.parts()[place][0][2]))
                self.assertEqual(board.opened(), ())
                shut += board.shut() != ()
        self.assertGreater(min(opened, shut), 20)

    def test_in_whatever_order_names_are_covered(self):
        rng = random.Random(1913)
        for number in range(30):
            town = boards.random_town(rng, (1, 2, 3)[number % 3])
            names = list(towns.names_of(towns.edge_of_all(town)))
            one, other = Board(town), Board(town)
            some = rng.sample(names, min(2, len(names)))
            for name in some:
                one.cover(name)
            for name in reversed(some):
                other.cover(name)
            self.assertTrue(one == other)
            self.assertEqual(one.front(), towns.plot_of(town, [name for name in names if name not in some]))


class Errors(Checks, unittest.TestCase):
    def test_houses_that_do_not_fit(self):
        inner = (((("ann",), ("box",), ()), ("box",)), ((("ann",), ("box",), ()), ("box",)))
        half = (((("ann",), ("box",), ()), ("ann", "box")), ((("ann",), ("box",), ()), ("box",)))
        sorts = (((("box",), (), ()), ("box",)), (((), ("box",), ()), ("box",)))
        third = (HOUSES[0], ((("kay",), (), ()), ("kay",)), ((("bob",), (), ()), ("bob",)))
        for town in (inner, half, half[::-1], sorts, third, (HOUSES[0], HOUSES[0]), sorts[:1] + third[1:2] + sorts[1:]):
            self.assertFalse(boards.fits_together(town))
            self.assert_raises("Unfit", {}, Board, town)
        for town in (HOUSES, HOUSES[:1], HOUSES[::-1], (((("ann",), (), ()), ("ann",)),) * 3):
            self.assertTrue(boards.fits_together(town))
            self.assertEqual(Board(town).parts(), town)

    def test_numbers_first(self):
        board = Board(HOUSES)
        for number in (-1, -2, 2, 3, 10 ** 9, -10 ** 9):
            for name, args in (
                ("act", (("take", "zed", "x", "own", "y"),)), ("act", (("make", "ann", "cy", "person", ()),)),
                ("let_in", (("zed", "own", "eve"),)), ("strike", (("zed", "own", "eve"),)), ("vow", ((("home", "zed", "own", "x"),),)),
                ("vow", (None,)), ("page", ()), ("broken", ()),
            ):
                self.assert_raises("NoNumber", {"number": number}, getattr(board, name), number, *args)
        self.assertTrue(board == Board(HOUSES) and len(board) == 0)

    def test_act(self):
        board = Board(HOUSES)
        for deed in (
            ("take", "ann", "box", "own", "key"), ("hand", "ann", "box", "own", "key"), ("hand", "bob", "key", "own", "key"),
            ("take", "zed", "box", "own", "key"), ("make", "zed", "cy", "person", ()), ("make", "box", "zed", "thing", ()),
            ("make", "ann", "bob", "person", ()), ("make", "ann", "key", "thing", ()), ("hand", "bob", "box", "see", "key"),
            ("make", "cy", "zed", "person", ()),
        ):
            self.assert_raises("Unfit", {}, board.act, 0, deed)
        self.assert_raises("Twice", {"name": "cy"}, board.act, 0, ("make", "ann", "cy", "person", ()))
        for name in ("ann", "bob"):
            self.assert_raises("Twice", {"name": name}, board.act, 1, ("make", "cy", name, "thing", ("take",)))
        self.assertEqual(len(board), 0)
        board.act(0, ("make", "ann", "zed", "thing", ("own",)))
        self.assert_raises("Twice", {"name": "zed"}, board.act, 1, ("make", "cy", "zed", "person", ()))
        self.assert_raises("Unfit", {}, board.act, 0, ("make", "ann", "zed", "person", ()))
        board.undo()
        board.act(1, ("make", "cy", "zed", "person", ()))
        self.assert_raises("Twice", {"name": "zed"}, board.act, 0, ("make", "ann", "zed", "person", ()))

    def test_let_in_and_strike(self):
        board = Board(HOUSES)
        for name in ("let_in", "strike"):
            call = getattr(board, name)
            self.assert_raises("NoMember", {"name": "cy"}, call, 0, ("cy", "own", "zed"))
            self.assert_raises("NoMember", {"name": "cy"}, call, 0, ("box", "own", "cy"))
            self.assert_raises("NoMember", {"name": ""}, call, 1, ("", "own", "ann"))
        self.assert_raises("NoHold", {"hold": ("ann", "own", "key")}, board.strike, 0, ("ann", "own", "key"))
        self.assert_raises("NoHold", {"hold": ("ann", "own", "key")}, board.strike, 0, ["ann", "own", "key"])
        board.strike(0, ("bob", "own", "key"))
        self.assert_raises("NoHold", {"hold": ("bob", "own", "key")}, board.strike, 0, ("bob", "own", "key"))
        self.assertEqual(board.parts()[0][0][2], (("bob", "hand", "box"),))

    def test_names_of_the_edge(self):
        board = Board(HOUSES)
        for name in ("ann", "bob", "zed", "", "Box"):
            for call in (board.cover, board.uncover):
                self.assert_raises("NoMember", {"name": name}, call, name)
            for call in (board.note, board.lets):
                self.assert_raises("NoMember", {"name": name}, call, (name, "own", "zzz"))
                self.assert_raises("NoMember", {"name": name}, call, ("box", "own", name))
        board.cover("box")
        self.assertIs(board.lets(("cy", "take", "box")), True)
        self.assert_same(board.note(("cy", "take", "box")), None)

    def test_vow(self):
        board = Board(HOUSES)
        self.assert_raises("NoMember", {"name": "cy"}, board.vow, 0, (("both", "box", "box"), ("home", "box", "own", "cy"), ("x", "zed", "box")))
        self.assert_raises("NoMember", {"name": "ann"}, board.vow, 0, (("takes", "ann", "box"),))
        self.assert_raises("NoMember", {"name": "zed"}, board.vow, 1, (("takes", "cy", "cy"), ("takes", "cy", "zed")))
        for lines in (
            (), (("both", "cy", "cy"), ("hands", "cy", "cy")), (("takes", "cy", "cy"),), (("has", "box", "take", "box"),),
            (("both", "key", "box"),), (("both", "cy", "cy"), ("meets", "cy", "cy"), ("hands", "cy", "cy")),
        ):
            self.assert_raises("Unfit", {}, board.vow, 1, lines)
        self.assert_raises("Unfit", {}, board.vow, 0, (("flows", "box", "key"),))
        self.assertEqual((len(board), board.vows()), (0, (None, None)))
        self.assert_same(board.vow(0, ()), None)
        self.assertEqual((board.vows(), board.kept()), (((), None), ()))
        self.assertEqual(board.broken(0), board.page(0))
        self.assertEqual(board.broken(1), ())
        board.vow(0, None)
        self.assertEqual((board.vows(), board.kept(), board.broken(0)), ((None, None), (), ()))

    def test_a_call_that_raises_changes_nothing(self):
        rng = random.Random(1921)
        raised = 0
        for number in range(40):
            town = boards.random_town(rng, (1, 2, 3)[number % 3])
            board, model = Board(town), boards.Model(town)
            for _ in range(12):
                word, args = boards.random_deed(rng, model)
                before = self.answers(board)
                if self.check_deed(board, model, word, args)[0] == "error":
                    raised += 1
                    self.assert_same(self.answers(board), before)
        self.assertGreater(raised, 40)


class Alike(Checks, unittest.TestCase):
    def test_twins(self):
        rng = random.Random(1931)
        for number in range(30):
            town = boards.random_town(rng, (1, 2, 3)[number % 3])
            board, model = Board(town), boards.Model(town)
            for _ in range(8):
                self.check_deed(board, model, *boards.random_deed(rng, model))
            twin, other = board.twin(), copy.deepcopy(model)
            self.assertTrue(board == twin and twin == board and not board != twin)
            self.assertIsNot(board, twin)
            self.assert_same(self.answers(twin), self.answers(board))
            for _ in range(6):
                self.check_deed(board, model, *boards.random_deed(rng, model))
                self.check_questions(twin, other, rng)
                self.check_deed(twin, other, *boards.random_deed(rng, other))
                self.check_questions(board, model, rng)
            while len(twin):
                twin.undo()
            self.assertTrue(twin == Board(town))
            self.check_questions(board, model, rng)

    def test_what_makes_boards_alike(self):
        vow = boards.letter(HOUSES[0])
        deeds = (
            lambda board: board.let_in(0, TIE), lambda board: board.cover("box"), lambda board: board.vow(0, vow),
            lambda board: board.note(OWN), lambda board: board.act(0, HAND), lambda board: board.strike(0, NEAR[2][0]),
            lambda board: board.vow(1, boards.letter(HOUSES[1])), lambda board: board.note(("cy", "see", "key")),
        )
        made = [Board(HOUSES)]
        for deed in deeds:
            made.append(Board(HOUSES))
            deed(made[-1])
        for one in made:
            for other in made:
                self.assertIs(one == other, one is other)
                self.assertIs(one != other, one is not other)
        self.assertTrue(Board(HOUSES) == Board(HOUSES))
        self.assertFalse(Board(HOUSES) != Board(HOUSES))
        self.assertFalse(Board(HOUSES) == Board(HOUSES[::-1]))
        self.assertFalse(Board(HOUSES) == Board(HOUSES[:1]))

    def test_notes_in_another_order(self):
        one, other = Board(HOUSES), Board(HOUSES)
        for hold in (OWN, ("cy", "see", "key")):
            one.note(hold)
        for hold in (("cy", "see", "key"), OWN):
            other.note(hold)
        self.assertTrue(one != other)
        other.undo()
        other.undo()
        other.note(OWN)
        other.note(("cy", "see", "key"))
        self.assertTrue(one == other)
        one.note(OWN)
        self.assertTrue(one != other)
        self.assertEqual(one.notes(), (OWN, ("cy", "see", "key"), OWN))

    def test_whatever_can_be_taken_back(self):
        one, other = Board(HOUSES), Board(HOUSES)
        one.let_in(0, TIE)
        one.strike(0, TIE)
        self.assertTrue(one == other and not one != other)
        self.assertEqual((len(one), len(other)), (2, 0))
        one.let_in(0, TIE)
        (people, things, holds), border = HOUSES[0]
        more = ((people, things, oracle.ascending(holds + (TIE,))), border)
        self.assertTrue(one == Board((more, HOUSES[1])))

    def test_other_values(self):
        board = Board(HOUSES)
        for value in list(ODD) + [HOUSES, board.parts(), len(board), (HOUSES, (), (None, None), ()), object, Board]:
            self.assertIs(board == value, False)
            self.assertIs(value == board, False)
            self.assertIs(board != value, True)

    def test_iteration(self):
        board = Board(HOUSES)
        board.cover("box")
        for call in (iter, list, tuple, sorted, set, lambda value: "box" in value, lambda value: [*value]):
            self.assertRaises(TypeError, call, board)
        with self.assertRaises(TypeError):
            for _ in board:
                pass


def fields(board):
    """All parts of an object, at whatever depth, that could be changed."""
    found, waiting = [], [vars(board)]
    while waiting:
        value = waiting.pop()
        if isinstance(value, (list, dict)):
            found.append(id(value))
        if isinstance(value, (list, tuple)):
            waiting += list(value)
        if isinstance(value, dict):
            waiting += list(value.values())
    return set(found)


class Copies(Checks, unittest.TestCase):
    def test_what_is_handed_in_stays_and_may_be_changed(self):
        rng = random.Random(1941)
        for number in range(30):
            town = boards.random_town(rng, (1, 2, 3)[number % 3])
            model = boards.Model(town)
            change = CHANGES[number % len(CHANGES)]
            given = change(town)
            kept = copy.deepcopy(given)
            board = Board(given)
            self.assert_same(given, kept)
            self.spoil(given)
            self.check_questions(board, model, rng)
            for _ in range(10):
                word, args = boards.random_deed(rng, model)
                told = [change(arg) for arg in args]
                kept = copy.deepcopy(told)
                got = outcome(getattr(board, word), *told)
                self.assert_same(got, boards.outcome(getattr(model, word), *args), (word, args))
                self.assertFalse(has_list(got[-1]) if got[0] == "error" else False)
                self.assert_same(told, kept)
                self.spoil(told)
                self.check_questions(board, model, rng)

    def spoil(self, value):
        """All lists of a value are changed, at any depth."""
        if isinstance(value, (list, tuple)):
            for part in value:
                self.spoil(part)
        if isinstance(value, list):
            value.append("more")
            value.reverse()

    def test_what_is_told_has_no_lists(self):
        board = Board([[list(part) for part in house] for house in HOUSES])
        board.cover("box")
        board.vow(0, [list(line) for line in board.page(0)])
        board.note(list(OWN))
        board.let_in(0, list(TIE))
        for name in PLAIN:
            self.assertFalse(has_list(getattr(board, name)()), name)
        for name in ("page", "broken"):
            self.assertFalse(has_list(getattr(board, name)(0)), name)
        self.assertTrue(same(board.notes(), (OWN,)))

    def test_twins_share_nothing_that_could_be_changed(self):
        board = Board(HOUSES)
        board.cover("box")
        board.note(OWN)
        twin = board.twin()
        self.assertEqual(fields(board) & fields(twin), set())
        self.assertIs(type(twin), Board)

    def test_lists_and_names_of_arguments(self):
        lines = boards.letter(HOUSES[0])
        rows = (
            ("act", (0, HAND)), ("act", (0, ("make", "ann", "zed", "thing", ("own", "see")))), ("let_in", (0, TIE)),
            ("strike", (0, NEAR[2][0])), ("cover", ("box",)), ("uncover", ("box",)), ("vow", (0, lines)), ("vow", (1, None)),
            ("note", (OWN,)), ("undo", ()), ("page", (1,)), ("broken", (0,)), ("lets", (OWN,)), ("act", (5, HAND)),
            ("act", (0, ("take", "ann", "box", "own", "key"))), ("act", (1, ("make", "cy", "ann", "thing", ()))),
            ("strike", (0, TIE)), ("note", (("ann", "own", "key"),)), ("vow", (0, (("flows", "box", "key"),))),
        )
        for word, args in rows:
            names = (DEEDS.get(word) or QUESTIONS.get(word) or ())
            first = Board(HOUSES)
            want = outcome(getattr(first, word), *args)
            for change in CHANGES:
                other = Board(houses=change(HOUSES))
                told = {name: change(arg) for name, arg in zip(names, args)}
                self.assert_same(outcome(getattr(other, word), **told), want, (word, args))
                self.assertTrue(other == first)

    def test_same_questions_again(self):
        board = Board(HOUSES)
        board.let_in(0, TIE)
        board.vow(0, boards.letter(HOUSES[0]))
        board.note(("key", "own", "box"))
        self.assert_same(self.answers(board), self.answers(board))


class Interface(unittest.TestCase):
    def test_each_method_is_defined_in_the_class_itself(self):
        tree = ast.parse(pathlib.Path(inspect.getfile(Board)).read_text(encoding="utf-8"))
        body = [part for part in tree.body if isinstance(part, ast.ClassDef) and part.name == "Board"][0].body
        methods = {part.name for part in body if isinstance(part, ast.FunctionDef)}
        self.assertLessEqual({*DEEDS, *QUESTIONS, "twin", "__eq__", "__len__", "__init__"}, methods)
        self.assertEqual(Board.__mro__, (Board, object))

    def test_names_of_arguments(self):
        for name, args in {**DEEDS, **QUESTIONS, "twin": (), "__init__": ("houses",)}.items():
            found = list(inspect.signature(getattr(Board, name)).parameters)[1:]
            self.assertEqual(found, list(args), name)


class Bounds(Checks, unittest.TestCase):
    def test_houses_at_the_bounds(self):
        rng = random.Random(1951)
        for _ in range(2):
            town = tuple(towns.house_at_bounds(rng, ("a", "c"), ("m", "n"), sign) for sign in "xyz")
            board, model = Board(town), boards.Model(town)
            self.check_questions(board, model, rng)
            for word, args in (
                ("strike", (0, town[0][0][2][7])), ("cover", ("a",)), ("vow", (1, boards.letter(town[1]))),
                ("vow", (2, ruled.closure(houses.edge_of(town[2]), ()))), ("note", (("m", "see", "n"),)),
                ("strike", (1, town[1][0][2][3])), ("note", (("a", "none", "c"),)), ("cover", ("m",)),
                ("uncover", ("a",)), ("note", (("c", "use", "n"),)), ("strike", (2, town[2][0][2][0])),
            ):
                self.assertEqual(self.check_deed(board, model, word, args)[0], "value")
                self.check_questions(board, model, rng)

    def test_thirty_deeds_six_notes(self):
        rng = random.Random(1952)
        board, model = Board(HOUSES), boards.Model(HOUSES)
        for number in range(30):
            name = "n" + "abcdefghijklmnopqrstuvwxyz"[number % 26]
            deeds = (
                ("let_in", (0, TIE)), ("act", (0, HAND)), ("cover", ("box",)), ("note", (OWN,)), ("strike", (0, TIE)), ("uncover", ("box",)),
                ("act", (0, ("make", "ann", name, "thing", ("hand", "take")))), ("vow", (1, boards.letter(HOUSES[1]))),
            )
            word, args = deeds[number % len(deeds)]
            self.assertEqual(self.check_deed(board, model, word, args)[0], "value", (word, args))
            self.check_questions(board, model, rng)
        self.assertEqual(len(board), 30)
        for _ in range(30):
            board.undo()
        self.assert_raises("NothingDone", {}, board.undo)
        self.assertTrue(board == Board(HOUSES))


if __name__ == "__main__":
    unittest.main()
