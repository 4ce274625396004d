"""[21]: which names stand in which file, with which arguments; and the errors."""

import ast
import importlib
import inspect
import pathlib
import unittest

import touchrights
import touchrights.errors
from rules import Rules

FOLDER = pathlib.Path(touchrights.__file__).parent

ERRORS = (
    ("NoHold", LookupError, "hold", ("ann", "own", "box")),
    ("NoMember", LookupError, "name", "ann"),
    ("NoNumber", LookupError, "number", -7),
    ("NothingDone", LookupError, None, None),
    ("BadLine", ValueError, "number", 3),
    ("Barred", ValueError, "number", 0),
    ("Twice", ValueError, "name", "box"),
    ("Unfit", ValueError, None, None),
)

BOOKS = """
is_book(thing) is_hold(book,thing) members_of(book) is_person(book,name) rights_in(book) holds_of(book,name)
held_to(book,name) with_person(book,name) with_thing(book,name) with_hold(book,hold) without_hold(book,hold)
without_member(book,name) part_of(book,some) renamed(book,old,new) turned_still(book,some) turned_alive(book,some)
beside(one,other) common_members(one,other) lies_in(one,other)
"""

DEEDS = """
is_deed(thing) is_row_of_deeds(thing) may_do(book,deed) open_deeds(book) wanted_by(deed) first_barred(book,deeds)
behind(book,deeds) new_holds(book,deeds) first_with(book,deeds,hold) doers(deeds) made_names(deeds)
done_without(book,deeds,numbers) behind_without(book,deeds,numbers) needed_deeds(book,deeds,hold)
lean_row(book,deeds,hold) is_lean_row(book,hold,thing) is_row_for(book,hold,thing)
"""

TOUCHES = """
reach(book,name) gifts(book,name) brought(book,name) touch_of(book,name,other) circles(book)
row_of_touches(book,name,other)
"""

EVER = """
can_ever(book,hold) who_can(book,right,what) deeds_for(book,hold) closed_table(book) is_closed_table(book,thing)
opened_by(book,hold) can_with(book,some,hold) fewest_who_act(book,hold)
"""

LETTERS = """
is_house(thing) edge_of(house) inner_of(house) is_line(edge,thing) is_lines(edge,thing) lines_of(edge,rights)
letter_of(house) has_line(house,line) question_of(house,line) shown_by(house,line) is_shown_by(house,line,thing)
gained(house,hold) needed_holds(house,line)
"""

OUTSIDES = """
is_outside(house,thing) put_beside(house,outside) lets(house,outside,hold) brought_outside(house,outside)
lets_no_more(one,other) alike_outside(one,other) telling_outside(one,other) is_telling(one,other,thing)
hidden_holds(house) hidden_people(house) idle_border(house)
"""

FOLLOWS = """
is_edge(thing) fact_of(edge,line) all_that_follow(edge,lines) follows(edge,lines,line) is_closed(edge,thing)
is_plot(thing) row_of_rules(edge,lines,line) is_row_of_rules(edge,lines,line,thing) used_lines(edge,lines,line)
least_lots(edge,lines,line)
"""

MODELS = """
model(edge,lines) is_model(edge,lines,thing) house_without(edge,lines,more) is_house_without(edge,lines,more,thing)
has_lines(house,lines) needless_lines(edge,lines) full_house(edge,rights)
"""

CITIES = """
is_city(thing) city_edge(city) city_of(houses) all_lines(city) city_letter(city,border) city_lets(city,hold)
city_holds(city) cut_out(edge,lines,name) joined_plots(city,number,other) emptied(edge) neighbours(city,number)
surroundings(city,number) changed_for(city,number,lines) brings_it(city,some,hold) needed_places(city,hold)
fewest_places(city,hold) idle_places(city,border) houses_for(city) is_houses_for(city,thing)
"""

PROMISES = """
keeps(house,lines) kept_places(houses,promises) full_plot(edge,rights) freed(promises,some,right) barred(promises,hold)
barred_but(promises,some,hold) free_places(promises,hold) least_enough(promises,hold) keepers_for(promises,hold)
is_keepers_for(promises,hold,thing) is_shield(promises,hold,thing) shield(promises,hold) let_more(promises,more)
spare_lines(promises,number,hold) least_clashes(promises,more,hold) greatest_more(promises,more,hold)
"""

BLAME = """
are_breakers(promises,sights,some) least_breakers(promises,sights) surely_broke(promises,sights)
maybe_broke(promises,sights) first_proof(promises,sights) blamed_lines(promises,sights,number)
least_breakers_knowing(promises,sights,known) breaking_houses(promises,sights,some)
is_breaking_houses(promises,sights,some,thing) blame_alike(promises)
"""

OFFERS = """
offered_city(city,offers) comes_with(city,offers,hold) opened_with(city,offers) is_safe(city,offers,holds)
safe_offers(city,offers,holds) clashing_offers(city,offers,holds) greatest_safe(city,offers,holds)
all_least_offers(city,offers,hold) fewest_offers(city,offers,hold) needed_offers(city,offers,hold)
all_least_seals(city,offers,hold) fewest_seals(city,offers,hold)
"""

UNSURE = """
fits_between(city,promises,number,lines) unsure_places(city,promises) surely_lets(city,promises,hold)
maybe_lets(city,promises,hold) told_more(city,promises,number,line) deciding_lines(city,promises,hold)
least_if(city,promises,hold) least_unless(city,promises,hold) least_lines_if(city,promises,hold)
surely_more(city,promises,sights) letting_city(city,promises,sights,some)
is_letting_city(city,promises,sights,some,thing)
"""

SECRETS = """
acting(houses,some) still_plot(house,names) plots_by(houses,some) reaches_by(houses,some,name)
opening_row(houses,some,name) is_opening_row(houses,some,name,thing) opens(houses,some,secret)
least_openers(houses,secret) greatest_shut(houses,secret) may_read(houses,readers,secret)
hindered_by(houses,readers,secret) reading_things(houses,readers)
"""

LEAN = """
joined_letters(edge,lines,more) common_letter(edge,lines,more) anew(edge,lines,more) lies_within(edge,lines,more)
is_lean(edge,lines) lean_lines(edge,lines) fewest_lines(edge,lines) least_lines(edge,lines) apart(edge,lines)
renamed_lines(edge,lines,names) names_between(edge,lines,other,more)
"""

SEEN = """
is_event(thing) are_events(thing) could_be(promises,events) impossible_sights(promises,events)
first_impossible(promises,events) could_be_seen(promises,events) earliest(promises,events,hold)
needed_puts(promises,events,number) least_puts(promises,events,number) needed_helpers(promises,events)
least_helpers(promises,events) needed_lines(drafts,events)
"""

JUDGE = """
is_claim(thing) stands(claim) paper_against(claim) is_paper_against(claim,thing) first_fallen(claims)
mending_holds(claim) breaking_holds(claim)
"""

TEXTS = """
book_text(book) house_text(house) lines_text(edge,lines) deeds_text(deeds) city_text(city) read_book(text)
read_house(text) read_deeds(text) read_lines(text) read_city(text)
"""

BOARD = """
Board(houses)
"""

DESK = """
is_request(thing) replies(houses,text)
"""

INTERFACE = {
    "books": BOOKS, "deeds": DEEDS, "touches": TOUCHES, "ever": EVER, "letters": LETTERS, "outsides": OUTSIDES,
    "follows": FOLLOWS, "models": MODELS, "cities": CITIES, "promises": PROMISES, "blame": BLAME, "offers": OFFERS,
    "unsure": UNSURE, "secrets": SECRETS, "lean": LEAN, "seen": SEEN, "judge": JUDGE, "texts": TEXTS,
    "board": BOARD, "desk": DESK,
}


def listed(text):
    """Pairs of the name of a function and the names of its arguments."""
    return [(call.split("(")[0], call.split("(")[1][:-1].split(",")) for call in text.split()]


def defined_in(name):
    """What is defined at the top of this file, not imported into it."""
    tree = ast.parse((FOLDER / f"{name}.py").read_text(encoding="utf-8"))
    return {part.name for part in tree.body if isinstance(part, (ast.FunctionDef, ast.ClassDef))}


class Interface(unittest.TestCase):
    def test_each_function_is_defined_in_its_file(self):
        for module, text in INTERFACE.items():
            for name, _ in listed(text):
                self.assertIn(name, defined_in(module), module)

    def test_each_function_takes_its_arguments(self):
        for module, text in INTERFACE.items():
            for name, arguments in listed(text):
                function = getattr(importlib.import_module(f"touchrights.{module}"), name)
                found = inspect.signature(function).parameters
                self.assertEqual(list(found), arguments, name)
                for parameter in found.values():
                    self.assertEqual(parameter.kind, parameter.POSITIONAL_OR_KEYWORD, name)
                    self.assertIs(parameter.default, parameter.empty, name)

    def test_each_error_is_defined_in_errors(self):
        for name, _, _, _ in ERRORS:
            self.assertIn(name, defined_in("errors"))


class Errors(Rules, unittest.TestCase):
    def test_bases(self):
        for name, base, _, _ in ERRORS:
            self.assertEqual(getattr(touchrights.errors, name).__bases__, (base,), name)

    def test_no_error_is_a_subclass_of_another(self):
        for one, _, _, _ in ERRORS:
            for other, _, _, _ in ERRORS:
                kin = issubclass(getattr(touchrights.errors, one), getattr(touchrights.errors, other))
                self.assertEqual(kin, one == other, (one, other))

    def test_made_by_position_and_by_name(self):
        for name, _, attribute, value in ERRORS:
            made = getattr(touchrights.errors, name)
            if attribute is None:
                self.assertEqual(vars(made()), {}, name)
                continue
            for error in (made(value), made(**{attribute: value})):
                self.assert_same(getattr(error, attribute), value, name)

    def test_values_are_kept_as_they_are(self):
        for name, _, attribute, _ in ERRORS:
            if attribute is not None:
                for value in (0, 10 ** 9, "", "z", ("a", "b", "c"), None):
                    error = getattr(touchrights.errors, name)(value)
                    self.assert_same(getattr(error, attribute), value, name)

    def test_attributes_are_wanted(self):
        for name, _, attribute, _ in ERRORS:
            made = getattr(touchrights.errors, name)
            if attribute is not None:
                self.assertEqual(list(inspect.signature(made).parameters), [attribute], name)

    def test_raised_and_caught_by_its_builtin_class(self):
        for name, base, attribute, value in ERRORS:
            made = getattr(touchrights.errors, name)
            with self.assertRaises(base) as caught:
                raise (made() if attribute is None else made(value))
            self.assertIs(type(caught.exception), made)


if __name__ == "__main__":
    unittest.main()
