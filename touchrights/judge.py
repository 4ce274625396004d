"""One judge of CLAIMS, and of PAPERS against them."""

from touchrights.blame import breaking_houses, is_breaking_houses
from touchrights.books import is_book, members_of, with_hold, without_hold
from touchrights.cities import is_city, names_of_all
from touchrights.deeds import is_row_for
from touchrights.errors import Unfit
from touchrights.ever import can_ever, deeds_for
from touchrights.follows import all_that_follow, is_edge
from touchrights.forms import ascends, is_hold_among, is_number, is_tuple_of, lies_among, tupled
from touchrights.letters import edge_of, is_house, is_line, is_lines
from touchrights.models import house_without, is_house_without, needless_lines
from touchrights.offers import comes_with
from touchrights.outsides import is_telling, lets_no_more, telling_outside
from touchrights.promises import is_keepers_for, is_shield, keepers_for, shield
from touchrights.ties import RIGHTS_USED


def _is_hold_of(plots, thing):
    return is_hold_among(names_of_all(plots), thing)


def _are_holds_of(plots, thing):
    """Whether thing is a set of HOLDS between NAMES of these plots."""
    if not isinstance(thing, tuple):
        return False
    return all([_is_hold_of(plots, hold) for hold in thing]) and ascends(thing)


def _are_places_of(plots, thing):
    if not isinstance(thing, tuple):
        return False
    return all([is_number(place) and 0 <= place < len(plots) for place in thing]) and ascends(thing)


# For each word whether what stands behind it, of the right length, fits.

def _fits_never(parts):
    book, hold = parts
    return is_book(book) and is_hold_among(book[0] + book[1], hold)


def _fits_no_more(parts):
    one, other = parts
    return is_house(one) and is_house(other) and edge_of(one) == edge_of(other)


def _fits_follows(parts):
    edge, lines, line = parts
    return _fits_lines((edge, lines)) and is_line(edge, line)


def _fits_lines(parts):
    edge, lines = parts
    return is_edge(edge) and is_lines(edge, lines)


def _fits_barred(parts):
    promises, hold = parts
    return is_city(promises) and _is_hold_of(promises, hold)


def _fits_cleared(parts):
    promises, sights, some = parts
    return is_city(promises) and _are_holds_of(promises, sights) and _are_places_of(promises, some)


def _fits_safe(parts):
    city, offers, holds = parts
    return is_city(city) and _are_holds_of(city, offers) and _are_holds_of(city, holds)


def _fits_surely(parts):
    city, promises, hold = parts
    if not (is_city(city) and is_city(promises) and _is_hold_of(city, hold)):
        return False
    if [edge for edge, _ in city] != [edge for edge, _ in promises]:
        return False
    return all([lies_among(sure[1], most[1]) for sure, most in zip(city, promises)])


# For each word a PAPER against the CLAIM, or None.

def _against_never(parts):
    book, hold = parts
    return deeds_for(book, hold)


def _against_no_more(parts):
    one, other = parts
    return telling_outside(one, other)


def _against_follows(parts):
    edge, lines, line = parts
    return house_without(edge, lines, (line,))


def _against_closed(parts):
    edge, lines = parts
    return _first_of([line for line in all_that_follow(edge, lines) if line not in lines])


def _against_lean(parts):
    edge, lines = parts
    return _first_of(needless_lines(edge, lines))


def _first_of(rows):
    return rows[0] if rows else None


def _against_barred(parts):
    promises, hold = parts
    return keepers_for(promises, hold)


def _against_cleared(parts):
    promises, sights, some = parts
    return breaking_houses(promises, sights, some)


def _against_safe(parts):
    city, offers, holds = parts
    return _first_of([hold for hold in holds if comes_with(city, offers, hold)])


def _against_surely(parts):
    city, _, hold = parts
    return shield(city, hold)


# For each word whether thing is a PAPER against the CLAIM.

def _tells_never(parts, thing):
    book, hold = parts
    return is_row_for(book, hold, thing)


def _tells_no_more(parts, thing):
    one, other = parts
    return is_telling(one, other, thing)


def _tells_follows(parts, thing):
    edge, lines, line = parts
    return is_house_without(edge, lines, (line,), thing)


def _tells_closed(parts, thing):
    edge, lines = parts
    return is_line(edge, thing) and thing not in lines and thing in all_that_follow(edge, lines)


def _tells_lean(parts, thing):
    edge, lines = parts
    return thing in needless_lines(edge, lines)


def _tells_barred(parts, thing):
    promises, hold = parts
    return is_keepers_for(promises, hold, thing)


def _tells_cleared(parts, thing):
    promises, sights, some = parts
    return is_breaking_houses(promises, sights, some, thing)


def _tells_safe(parts, thing):
    city, offers, holds = parts
    return thing in holds and comes_with(city, offers, thing)


def _tells_surely(parts, thing):
    city, _, hold = parts
    return is_shield(city, hold, thing)


LENGTHS = {
    "never": 2, "no more": 2, "follows": 3, "closed": 2, "lean": 2, "barred": 2, "cleared": 3, "safe": 3, "surely": 3,
}
FITS = {
    "never": _fits_never, "no more": _fits_no_more, "follows": _fits_follows, "closed": _fits_lines,
    "lean": _fits_lines, "barred": _fits_barred, "cleared": _fits_cleared, "safe": _fits_safe, "surely": _fits_surely,
}
AGAINST = {
    "never": _against_never, "no more": _against_no_more, "follows": _against_follows, "closed": _against_closed,
    "lean": _against_lean, "barred": _against_barred, "cleared": _against_cleared, "safe": _against_safe,
    "surely": _against_surely,
}
TELLS = {
    "never": _tells_never, "no more": _tells_no_more, "follows": _tells_follows, "closed": _tells_closed,
    "lean": _tells_lean, "barred": _tells_barred, "cleared": _tells_cleared, "safe": _tells_safe,
    "surely": _tells_surely,
}


def is_claim(thing):
    if not isinstance(thing, tuple) or not thing or not isinstance(thing[0], str) or thing[0] not in LENGTHS:
        return False
    if len(thing) != 1 + LENGTHS[thing[0]]:
        return False
    fits = FITS[thing[0]]
    return fits(thing[1:])


def _read(claim):
    """The CLAIM with tuples in the place of lists."""
    claim = tupled(claim)
    if not is_claim(claim):
        raise Unfit()
    return claim


def stands(claim):
    return paper_against(claim) is None


def paper_against(claim):
    return _paper_against(_read(claim))


def _paper_against(claim):
    against = AGAINST[claim[0]]
    return against(claim[1:])


def is_paper_against(claim, thing):
    claim = _read(claim)
    tells = TELLS[claim[0]]
    return tells(claim[1:], thing)


def first_fallen(claims):
    claims = [_read(claim) for claim in claims]
    for place, claim in enumerate(claims):
        paper = _paper_against(claim)
        if paper is not None:
            return (place, paper)
    return None


def mending_holds(claim):
    claim = _read(claim)
    if claim[0] not in ("never", "no more"):
        raise Unfit()
    if _paper_against(claim) is None:
        return ()
    holds = claim[1][2] if claim[0] == "never" else claim[1][0][2]
    return tuple([hold for hold in holds if _stands_without(claim, hold)])


def _stands_without(claim, hold):
    """Whether the CLAIM stands without this HOLD of the BOOK that is told first."""
    word, one, other = claim
    if word == "never":
        return not can_ever(without_hold(one, hold), other)
    book, border = one
    return lets_no_more((without_hold(book, hold), border), other)


def breaking_holds(claim):
    claim = _read(claim)
    if claim[0] != "never":
        raise Unfit()
    _, book, goal = claim
    if can_ever(book, goal):
        return ()
    members = members_of(book)
    holds = [(who, right, what) for who in members for right in RIGHTS_USED for what in members]
    return tuple([hold for hold in holds if hold not in book[2] and can_ever(with_hold(book, hold), goal)])
