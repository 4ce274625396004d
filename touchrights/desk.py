"""A desk: requests, one in a line, put to a Board one behind another."""

from touchrights.board import Board
from touchrights.deeds import is_deed
from touchrights.errors import BadLine, NoHold, NoMember, NoNumber, NothingDone, Twice, Unfit
from touchrights.forms import ascends, is_name, need_numbers

FIGURES = "0123456789"
# How many NAMES stand behind each word of a LINE.
NAMES_IN_LINE = {"home": 3, "has": 3, "puts": 3, "takes": 2, "hands": 2, "meets": 2, "flows": 2, "both": 2}


# Each reader tells what its words say, or None if they say nothing of the kind.

def _read_nothing(words):
    return None if words else ()


def _read_name(words):
    return words[0] if len(words) == 1 and is_name(words[0]) else None


def _read_hold(words):
    return words if len(words) == 3 and all([is_name(word) for word in words]) else None


def _read_deed(words):
    if len(words) != 5:
        return None
    deed = words
    if words[0] == "make":
        rights = () if words[4] == "*" else tuple(words[4].split("+"))
        deed = words[:4] + (rights,)
    return deed if is_deed(deed) else None


def _read_lines(words):
    if words == ("-",):
        return ()
    lines = tuple([tuple(part.split(" ")) for part in " ".join(words).split(" / ")])
    return lines if all([_is_line_shaped(line) for line in lines]) and ascends(lines) else None


def _is_line_shaped(line):
    if line[0] not in NAMES_IN_LINE or len(line) != 1 + NAMES_IN_LINE[line[0]]:
        return False
    return all([is_name(word) for word in line[1:]])


def _is_number_word(word):
    return word != "" and all([sign in FIGURES for sign in word]) and (word == "0" or word[0] != "0")


# What is read behind the number, and behind the word of a request without one.
BEHIND_NUMBER = {
    "act": _read_deed, "let": _read_hold, "strike": _read_hold, "vow": _read_lines, "free": _read_nothing,
    "page": _read_nothing, "broken": _read_nothing, "holds": _read_nothing,
}
BEHIND_WORD = {
    "cover": _read_name, "uncover": _read_name, "note": _read_hold, "undo": _read_nothing, "front": _read_nothing,
    "opened": _read_nothing, "shut": _read_nothing, "lets": _read_hold, "covered": _read_nothing,
    "kept": _read_nothing, "strange": _read_nothing, "notes": _read_nothing, "deeds": _read_nothing,
}


def _read_request(line):
    """The triple (word, number, told), the number 0 if it has none; None if it is no request."""
    words = tuple(line.split(" "))
    if words[0] in BEHIND_WORD:
        read = BEHIND_WORD[words[0]]
        told, number = read(words[1:]), 0
    elif words[0] in BEHIND_NUMBER and len(words) > 1 and _is_number_word(words[1]):
        read = BEHIND_NUMBER[words[0]]
        # Nine figures are enough: no number that has more of them tells a house.
        told, number = read(words[2:]), int(words[1][:9])
    else:
        return None
    return None if told is None else (words[0], number, told)


def is_request(thing):
    return isinstance(thing, str) and _read_request(thing) is not None


def replies(houses, text):
    board = Board(houses)
    requests = []
    for number, line in enumerate(_lines_of(text)):
        request = _read_request(line)
        if request is None:
            raise BadLine(number)
        requests.append(request)
    return [_reply(board, request) for request in requests]


def _lines_of(text):
    return text.split("\n") if text else []


def _reply(board, request):
    try:
        return _reply_if_fit(board, request)
    except NoHold:
        return "refused NoHold"
    except NoMember:
        return "refused NoMember"
    except NoNumber:
        return "refused NoNumber"
    except NothingDone:
        return "refused NothingDone"
    except Twice:
        return "refused Twice"
    except Unfit:
        return "refused Unfit"


def _reply_if_fit(board, request):
    word, number, told = request
    if word in ("act", "let", "strike", "cover", "uncover", "vow", "free", "note", "undo"):
        _do(board, word, number, told)
        return "done"
    if word == "lets":
        return "yes" if board.lets(told) else "no"
    if word == "deeds":
        return str(len(board))
    if word == "covered":
        return _or_dash(" ".join(board.covered()))
    if word in ("kept", "strange"):
        places = board.kept() if word == "kept" else board.strange()
        return _or_dash(" ".join([str(place) for place in places]))
    return _or_dash(" / ".join([" ".join(row) for row in _rows_asked(board, word, number)]))


def _or_dash(text):
    """How a reply tells that there is nothing."""
    return text if text else "-"


def _do(board, word, number, told):
    if word == "act":
        board.act(number, told)
    elif word == "let":
        board.let_in(number, told)
    elif word == "strike":
        board.strike(number, told)
    elif word == "cover":
        board.cover(told)
    elif word == "uncover":
        board.uncover(told)
    elif word == "vow":
        board.vow(number, told)
    elif word == "free":
        board.vow(number, None)
    elif word == "note":
        board.note(told)
    else:
        board.undo()


def _rows_asked(board, word, number):
    """The LINES or HOLDS that are asked for."""
    if word == "page":
        return board.page(number)
    if word == "broken":
        return board.broken(number)
    if word == "front":
        return board.front()[1]
    if word == "opened":
        return board.opened()
    if word == "shut":
        return board.shut()
    if word == "notes":
        return board.notes()
    houses = board.parts()
    need_numbers(len(houses), (number,))
    return houses[number][0][2]
