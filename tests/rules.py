"""What [2] asks of every function, checked at calls that a test hands in."""

import copy
import inspect


def same(one, other):
    """Whether both are equal, tuples being no lists, True being no number."""
    if type(one) is not type(other):
        return False
    if isinstance(one, (list, tuple)):
        return len(one) == len(other) and all(same(a, b) for a, b in zip(one, other))
    return one == other


def outcome(function, *args, **names):
    """What a call gives: its value, or its error with its attributes."""
    try:
        return ("value", function(*args, **names))
    except (LookupError, ValueError) as error:
        return ("error", type(error).__name__, tuple(sorted(vars(error).items())))


def in_lists(value):
    return [in_lists(part) for part in value] if isinstance(value, (list, tuple)) else value


def in_turns(value, turn=True):
    """The value with lists in the place of the tuples of each second level."""
    if not isinstance(value, (list, tuple)):
        return value
    parts = [in_turns(part, not turn) for part in value]
    return parts if turn else tuple(parts)


def in_mix(value, turn):
    """The value with a list in the place of each second tuple, side by side."""
    if not isinstance(value, (list, tuple)):
        return value
    parts = [in_mix(part, (place + turn) % 2) for place, part in enumerate(value)]
    return parts if turn else tuple(parts)


CHANGES = (
    in_lists, in_turns, lambda value: in_turns(value, False), lambda value: in_mix(value, 0), lambda value: in_mix(value, 1),
)


def has_list(value):
    if isinstance(value, list):
        return True
    return isinstance(value, tuple) and any(has_list(part) for part in value)


class Rules:
    """Mixed into a TestCase."""

    def assert_same(self, got, want, where=None):
        self.assertTrue(same(got, want), f"{where or ''}\n got: {got!r}\nwant: {want!r}")

    def assert_raises(self, name, values, function, *args):
        """The call raises the error of this name, with just these values in its attributes."""
        self.assert_same(outcome(function, *args), ("error", name, tuple(sorted(values.items()))), function.__name__)

    def check_call(self, function, names, args):
        """One call, handed in in all the ways that [2] allows."""
        where = (function.__name__, args)
        self.assertEqual(list(inspect.signature(function).parameters), list(names), function.__name__)
        kept = copy.deepcopy(args)
        want = outcome(function, *args)
        self.assert_same(args, kept, where)
        self.assert_same(outcome(function, *args), want, where)
        self.assert_same(outcome(function, **dict(zip(names, args))), want, where)
        self.assert_same(outcome(function, **dict(reversed(list(zip(names, args))))), want, where)
        for change in CHANGES:
            changed = [arg if name == "thing" else change(arg) for name, arg in zip(names, args)]
            kept = copy.deepcopy(changed)
            self.assert_same(outcome(function, *changed), want, where)
            self.assert_same(changed, kept, where)
            self.assert_same(outcome(function, **dict(zip(names, changed))), want, where)
        self.check_result(function, args, want, where)

    def check_result(self, function, args, want, where):
        if want[0] == "error":
            self.assertFalse(has_list(want[2]), where)
            return
        if not isinstance(want[1], list):
            self.assertFalse(has_list(want[1]), where)
            return
        self.assertFalse(any(has_list(part) for part in want[1]), where)
        kept = list(want[1])
        one, two = function(*args), function(*args)
        self.assertIsNot(one, two, where)
        one.append("more")
        two.clear()
        self.assert_same(function(*args), kept, where)

    def check_calls(self, calls):
        """calls: for each function its names of arguments, and some tuples of arguments."""
        for function, names, rows in calls:
            for args in rows:
                self.check_call(function, names.split(), args)


# Values of all kinds, for what is called thing.

def deep(levels, value=()):
    for level in range(levels - 1):
        value = (value,) if level % 2 else [value]
    return value


ODD = (
    0, 1, -1, 7, 10 ** 30, True, False, None, "", "a", "ann", "box", "take", "hand", "make", "person", "Ann", "abcdefghi",
    "a b", "a1", "\u00e9", "\u00e4nn", "a\n", "home", "both", "meets", (), [], ((),), [[]], ("a",), ["a"], ("a", "a"),
    ("b", "a"), ("a", "b"), (None,), (1, "a"), ("a", True), ((), ()), ((), (), ()), [(), (), ()], (((), (), ()), ()),
    ("ann", "take", "box"), ["ann", "take", "box"], ("take", "ann", "box", "own", "box"), (("a",), ("a",), ()),
    deep(12), deep(12, "a"), deep(11, ("ann", 1)), ("",) * 3, (True,) * 3, (0,) * 5, tuple("abcdefgh") * 40,
)


def parts_with_paths(value, path=()):
    yield path, value
    if isinstance(value, tuple):
        for place, part in enumerate(value):
            yield from parts_with_paths(part, path + (place,))


def put(value, path, new):
    if not path:
        return new
    return value[:path[0]] + (put(value[path[0]], path[1:], new),) + value[path[0] + 1:]


def near_misses(value):
    """Values that differ from a good one at one place: most of them are not as stated, some are."""
    for path, part in parts_with_paths(value):
        for odd in ODD:
            yield put(value, path, odd)
        if isinstance(part, tuple):
            yield put(value, path, list(part))
            yield put(value, path, part + part[:1])
            yield put(value, path, part + (None,))
            yield put(value, path, part + ("zz",))
            yield put(value, path, part[1:])
            yield put(value, path, part[:-1])
            yield put(value, path, part[::-1])
            yield put(value, path, part[:1] + part)
        if isinstance(part, str):
            yield put(value, path, part + "z")
            yield put(value, path, part.upper())
            yield put(value, path, (part,))
            yield put(value, path, part.ljust(9, "z"))
