"""Texts of BOOKS, HOUSES, LINES, DEEDS and CITIES, written and read."""

from touchrights.deeds import is_deed
from touchrights.errors import BadLine
from touchrights.forms import is_hold_among, is_name, is_set_of_names, lies_among, tupled
from touchrights.letters import is_line


def _written(rows):
    """The text of these rows of words."""
    return "".join([" ".join(words) + "\n" for words in rows])


def _member_rows(people, things):
    return [("person", name) for name in people] + [("thing", name) for name in things]


def book_text(book):
    people, things, holds = tupled(book)
    return _written(_member_rows(people, things) + list(holds))


def house_text(house):
    book, border = tupled(house)
    return book_text(book) + _written([("border",) + border])


def lines_text(edge, lines):
    people, things = tupled(edge)
    return _written(_member_rows(people, things) + list(tupled(lines)))


def deeds_text(deeds):
    return _written([_deed_row(deed) for deed in tupled(deeds)])


def _deed_row(deed):
    return deed[:4] + deed[4] if deed[0] == "make" else deed


def city_text(city):
    return "".join(["house\n" + lines_text(edge, lines) for edge, lines in tupled(city)])


def _rows_of(text):
    """The words of each line of the text, as tuples."""
    lines = text.split("\n")
    if lines[-1] == "":
        # A line break at the end, or a text without any line, begins none.
        lines = lines[:-1]
    return [tuple(line.split(" ")) for line in lines]


class Sheet:
    """What has been read so far of a text that begins with PEOPLE and THINGS."""

    def __init__(self):
        self.people = []
        self.things = []
        self.rows = []

    def edge(self):
        return (tuple(self.people), tuple(self.things))

    def as_book(self):
        return (tuple(self.people), tuple(self.things), tuple(self.rows))

    def as_lines(self):
        return (self.edge(), tuple(self.rows))

    def take_member(self, words):
        """Whether a line of these words tells a PERSON or a THING here; if so, it is kept."""
        if self.rows or len(words) != 2 or not is_name(words[1]):
            return False
        if words[0] == "person":
            return not self.things and _add(self.people, words[1])
        return words[0] == "thing" and words[1] not in self.people and _add(self.things, words[1])

    def take_hold(self, words):
        return is_hold_among(self.people + self.things, words) and _add(self.rows, words)

    def take_line(self, words):
        return is_line(self.edge(), words) and _add(self.rows, words)


def _add(rows, new):
    """Whether the new one is above all others; if so, it is kept."""
    if rows and new <= rows[-1]:
        return False
    rows.append(new)
    return True


def read_book(text):
    return _book_of(_rows_of(text))


def _book_of(rows):
    sheet = Sheet()
    for number, words in enumerate(rows):
        if not (sheet.take_member(words) or sheet.take_hold(words)):
            raise BadLine(number)
    return sheet.as_book()


def read_house(text):
    rows = _rows_of(text)
    if not rows or rows[-1][0] != "border":
        _book_of(rows)
        raise BadLine(len(rows))
    book = _book_of(rows[:-1])
    border = rows[-1][1:]
    if not (is_set_of_names(border) and lies_among(border, book[0] + book[1])):
        raise BadLine(len(rows) - 1)
    return (book, border)


def read_lines(text):
    sheet = Sheet()
    for number, words in enumerate(_rows_of(text)):
        if not (sheet.take_member(words) or sheet.take_line(words)):
            raise BadLine(number)
    return sheet.as_lines()


def read_city(text):
    sheets = []
    for number, words in enumerate(_rows_of(text)):
        if words == ("house",):
            sheets.append(Sheet())
        elif not sheets or not (sheets[-1].take_member(words) or sheets[-1].take_line(words)):
            raise BadLine(number)
    return tuple([sheet.as_lines() for sheet in sheets])


def read_deeds(text):
    deeds = []
    for number, words in enumerate(_rows_of(text)):
        deed = _deed_of(words)
        if not is_deed(deed):
            raise BadLine(number)
        deeds.append(deed)
    return tuple(deeds)


def _deed_of(words):
    return words[:4] + (words[4:],) if words[0] == "make" else words
