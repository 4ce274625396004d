"""A board of HOUSES, on which deeds are done and taken back."""

from touchrights.books import with_hold, without_hold
from touchrights.cities import city_letter, city_lets, city_of, comes_in_all
from touchrights.deeds import behind, may_do
from touchrights.errors import NothingDone, Twice, Unfit
from touchrights.follows import is_closed
from touchrights.forms import as_set, lies_among, need_lines, need_members, need_numbers, tupled, with_part
from touchrights.letters import edge_of, letter_of


def _names_of(houses):
    """The NAMES of the EDGE of their CITY."""
    return as_set([name for house in houses for name in house[1]])


def _front_with(houses, covered):
    return city_letter(city_of(houses), [name for name in _names_of(houses) if name not in covered])


def _without_these(lines, others):
    return tuple([line for line in lines if line not in others])


class Board:
    """HOUSES, covered names, vows and notes; what they were ahead of each deed is kept, to be taken back."""

    def __init__(self, houses):
        self._houses = tupled(houses)
        self._covered = ()
        self._vows = tuple([None for _ in self._houses])
        self._notes = ()
        self._earlier = []
        city_of(self._houses)

    def _state(self):
        return (self._houses, self._covered, self._vows, self._notes)

    def _become(self, state):
        self._houses, self._covered, self._vows, self._notes = state

    def _begin_deed(self):
        self._earlier.append(self._state())

    def __eq__(self, other):
        return isinstance(other, Board) and self._state() == other._state()

    def __len__(self):
        return len(self._earlier)

    def _need_house(self, number):
        need_numbers(len(self._houses), (number,))

    def _change_book(self, number, book):
        self._begin_deed()
        self._houses = with_part(self._houses, number, (book, self._houses[number][1]))

    def act(self, number, deed):
        self._need_house(number)
        deed = tupled(deed)
        book = self._houses[number][0]
        if not may_do(book, deed):
            raise Unfit()
        # A NAME of this house can not be made, so it is made twice only if another house has it.
        if deed[0] == "make" and any([deed[2] in people + things for (people, things, _), _ in self._houses]):
            raise Twice(deed[2])
        self._change_book(number, behind(book, (deed,)))

    def let_in(self, number, hold):
        self._need_house(number)
        self._change_book(number, with_hold(self._houses[number][0], hold))

    def strike(self, number, hold):
        self._need_house(number)
        self._change_book(number, without_hold(self._houses[number][0], hold))

    def cover(self, name):
        need_members(_names_of(self._houses), (name,))
        self._begin_deed()
        self._covered = as_set(self._covered + (name,))

    def uncover(self, name):
        need_members(_names_of(self._houses), (name,))
        self._begin_deed()
        self._covered = tuple([other for other in self._covered if other != name])

    def vow(self, number, lines):
        self._need_house(number)
        lines = tupled(lines)
        if lines is not None:
            edge = edge_of(self._houses[number])
            need_lines(edge, lines)
            if not is_closed(edge, lines):
                raise Unfit()
        self._begin_deed()
        self._vows = with_part(self._vows, number, lines)

    def note(self, hold):
        hold = tupled(hold)
        need_members(_names_of(self._houses), (hold[0], hold[2]))
        self._begin_deed()
        self._notes = self._notes + (hold,)

    def undo(self):
        if not self._earlier:
            raise NothingDone()
        self._become(self._earlier.pop())

    def twin(self):
        other = Board(self._houses)
        other._become(self._state())
        other._earlier = list(self._earlier)
        return other

    def parts(self):
        return self._houses

    def covered(self):
        return self._covered

    def vows(self):
        return self._vows

    def notes(self):
        return self._notes

    def page(self, number):
        self._need_house(number)
        return letter_of(self._houses[number])

    def town(self):
        return city_of(self._houses)

    def front(self):
        return _front_with(self._houses, self._covered)

    def lets(self, hold):
        return city_lets(self.town(), hold)

    def kept(self):
        vows = [(place, vow) for place, vow in enumerate(self._vows) if vow is not None]
        return tuple([place for place, vow in vows if lies_among(self.page(place), vow)])

    def broken(self, number):
        letter, vow = self.page(number), self._vows[number]
        return () if vow is None else _without_these(letter, vow)

    def opened(self):
        return _without_these(self.front()[1], self._front_lines_earlier())

    def shut(self):
        return _without_these(self._front_lines_earlier(), self.front()[1])

    def _front_lines_earlier(self):
        """The LINES of the front ahead of the last deed; without one those it has now, as nothing was changed."""
        if not self._earlier:
            return self.front()[1]
        houses, covered, _, _ = self._earlier[-1]
        return _front_with(houses, covered)[1]

    def strange(self):
        plots = []
        for (edge, letter), vow in zip(self.town(), self._vows):
            plots.append((edge, letter if vow is None else vow))
        notes = list(enumerate(self._notes))
        return tuple([place for place, hold in notes if not comes_in_all(plots, hold)])
