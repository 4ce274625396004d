"""The examples of sections 7 and 8."""

import unittest

from examples import check_examples, names_of
from test_examples_houses import SECTION_SIX
import touchrights.cities
import touchrights.follows
import touchrights.letters
import touchrights.models
import touchrights.outsides


SECTION_SEVEN = r'''
    >>> edge = (("ann",), ("box", "car"))
    >>> all_that_follow(edge, ())
    (('both', 'ann', 'ann'), ('hands', 'ann', 'ann'), ('meets', 'ann', 'ann'))
    >>> boxes, told = ((), ("box", "car")), (("flows", "box", "car"), ("has", "car", "own", "box"))
    >>> follows(boxes, told, ("hands", "car", "car")), follows(boxes, told, ("home", "car", "own", "box")), follows(boxes, told[:1], ("meets", "box", "car"))
    (True, False, False)
    >>> fact_of(boxes, told[0]), used_lines(boxes, told, ("meets", "car", "car")), is_closed(boxes, told)
    ((('gives', 'car'), ('reaches', 'box')), (('flows', 'box', 'car'),), False)
    >>> row = (((("gives", "car"), ("reaches", "box")), 0, ()), ((("met", "car"), ("reaches", "box")), 1, (0,)))
    >>> is_row_of_rules(boxes, told, ("takes", "car", "box"), row), is_row_of_rules(boxes, told, ("both", "box", "box"), row), row_of_rules(boxes, (), told[0])
    (True, False, None)
    >>> follows(edge, (("takes", "bob", "box"),), ("both", "ann", "ann"))
    raises NoMember(name='bob')
    >>> boxes, lines = ((), ("box", "car")), (("flows", "box", "car"),)
    >>> is_model(boxes, lines, carrier), is_model(boxes, (), owner), is_model(boxes, (), carrier), is_model(boxes, lines, model(boxes, lines))
    (True, True, False, True)
    >>> house_without(boxes, lines, (("both", "car", "car"), ("takes", "car", "box"))), is_house_without(boxes, lines, (("both", "car", "car"), ("home", "box", "own", "car")), carrier)
    (None, True)
    >>> has_lines(carrier, (("hands", "car", "car"), ("home", "car", "take", "box"))), needless_lines(boxes, (("flows", "box", "car"), ("takes", "car", "box")))
    (True, (('takes', 'car', 'box'),))
    >>> is_model((("ann",), ()), (), ((("ann",), (), ()), ("ann",))), has_lines(full_house(boxes, ("own",)), (("both", "box", "car"), ("home", "box", "own", "box")))
    (True, True)
    >>> model(boxes, (("flows", "ann", "box"),))
    raises NoMember(name='ann')
'''


SECTION_EIGHT = r'''
    >>> flat = ((("ann",), ("box",), (("ann", "take", "box"),)), ("ann", "box"))
    >>> shop = ((("ivy",), ("box", "cup"), (("ivy", "hand", "box"), ("ivy", "take", "cup"))), ("box", "cup"))
    >>> store = ((("dan",), ("cup",), (("cup", "own", "dan"),)), ("cup", "dan"))
    >>> city = city_of((flat, shop, store))
    >>> city_edge(city), len(all_lines(city)), emptied((("ann",), ("box",)))[1], [len(lines) for edge, lines in city]
    ((('ann', 'dan'), ('box', 'cup')), 53, (('both', 'ann', 'ann'), ('hands', 'ann', 'ann'), ('meets', 'ann', 'ann')), [11, 11, 5])
    >>> city_letter(city, ("cup",)), city_lets(city, ("ann", "own", "dan")), city_lets(city, ("dan", "own", "ann")), len(city_holds(city))
    ((((), ('cup',)), (('both', 'cup', 'cup'), ('puts', 'cup', 'take', 'cup'))), True, False, 9)
    >>> surroundings(city, 1), neighbours(city, 1), changed_for(city, 0, emptied(city[0][0])[1])
    ((((), ('box', 'cup')), (('both', 'box', 'box'), ('puts', 'box', 'take', 'box'))), (0, 2), (1,))
    >>> needed_places(city, ("ann", "own", "dan")), fewest_places(city, ("box", "take", "cup")), brings_it(city, (0,), ("ann", "take", "cup")), idle_places(city, ("ann",)), is_houses_for(city, (flat, shop, store))
    ((0, 1, 2), (1,), False, (0, 1, 2), True)
    >>> city_lets(city, ("ivy", "own", "dan"))
    raises NoMember(name='ivy')
'''

MODULES = (
    touchrights.letters, touchrights.outsides, touchrights.follows, touchrights.models, touchrights.cities,
)


class Examples(unittest.TestCase):
    def test_section_seven(self):
        # carrier and owner are those of section 6.
        check_examples(self, SECTION_SIX + SECTION_SEVEN, names_of(*MODULES))

    def test_section_eight(self):
        check_examples(self, SECTION_EIGHT, names_of(*MODULES))


if __name__ == "__main__":
    unittest.main()
