"""The examples of sections 13 to 15."""

import unittest

from examples import check_examples, names_of
import touchrights.cities
import touchrights.lean
import touchrights.secrets
import touchrights.seen


SECTION_THIRTEEN = r'''
    >>> home = ((("ann", "bob"), ("box", "key"), (("ann", "hand", "box"), ("bob", "take", "ann"), ("bob", "take", "key"))), ("ann", "box", "key"))
    >>> shop = ((("cy",), ("box",), (("cy", "take", "box"),)), ("box", "cy"))
    >>> houses = (home, shop)
    >>> acting(houses, (0,)), acting(houses, ()), reaches_by(houses, (0,), "key"), reaches_by(houses, (0,), "box"), reaches_by(houses, (0, 1), "box")
    (('ann', 'bob'), (), True, False, True)
    >>> still_plot(shop, ()), plots_by(houses, (0,))[1] == still_plot(shop, ())
    ((((), ('box', 'cy')), (('has', 'cy', 'take', 'box'), ('home', 'cy', 'take', 'box'), ('takes', 'cy', 'box'))), True)
    >>> opens(houses, (0,), ("box", "key")), opens(houses, (0, 1), ("box", "key")), opens(houses, (), ())
    (False, True, True)
    >>> least_openers(houses, ("box", "key")), least_openers(houses, ("key",)), greatest_shut(houses, ("box", "key")), greatest_shut(houses, ())
    ([(0, 1)], [(0,)], 1, None)
    >>> may_read(houses, (0,), ("key",)), hindered_by(houses, (0, 1), ("key",)), hindered_by(houses, (), ("key",)), hindered_by(houses, (1,), ("box",))
    (True, (1,), (0,), None)
    >>> reading_things(houses, (0,)), reading_things(houses, (0, 1)), reading_things(houses, ())
    (('key',), (), ())
    >>> is_opening_row(houses, (0,), "key", ()), is_opening_row(houses, (0,), "box", ()), opening_row(houses, (0,), "box")
    (True, False, None)
    >>> is_opening_row(houses, (0,), "key", (("take", "bob", "ann", "hand", "box"),)), is_opening_row(houses, (0,), "key", (("take", "cy", "box", "own", "box"),))
    (True, False)
    >>> opens(houses, (0,), ("box", "bob"))
    raises NoMember(name='bob')
    >>> opens(houses, (0,), ("ann", "key"))
    raises Unfit()
'''


SECTION_FOURTEEN = r'''
    >>> edge, near, far = ((), ("b", "c", "d")), (("takes", "b", "c"),), (("takes", "c", "d"),)
    >>> both = joined_letters(edge, near, far)
    >>> both
    (('has', 'b', 'take', 'c'), ('has', 'b', 'take', 'd'), ('has', 'c', 'take', 'd'), ('takes', 'b', 'c'), ('takes', 'b', 'd'), ('takes', 'c', 'd'))
    >>> anew(edge, near, far), common_letter(edge, both, far), lies_within(edge, far, both), lies_within(edge, both, far)
    ((('has', 'b', 'take', 'd'), ('takes', 'b', 'd')), (('has', 'c', 'take', 'd'), ('takes', 'c', 'd')), True, False)
    >>> is_lean(edge, both), is_lean(edge, (*near, *far)), lean_lines(edge, both), fewest_lines(edge, both), least_lines(edge, both)
    (False, True, (('takes', 'b', 'c'), ('takes', 'c', 'd')), 2, (('has', 'b', 'take', 'c'), ('has', 'c', 'take', 'd')))
    >>> apart(edge, near), renamed_lines(edge, near, (("b", "x"), ("c", "y"), ("d", "z"))), names_between(edge, near, edge, far)
    ((('b', 'c'), ('d',)), (((), ('x', 'y', 'z')), (('takes', 'x', 'y'),)), [(('b', 'c'), ('c', 'd'), ('d', 'b'))])
    >>> joined_letters((("p",), ()), (), ()), lean_lines((("p",), ()), (("both", "p", "p"),)), names_between((("p",), ()), (), ((), ("b",)), ())
    ((('both', 'p', 'p'), ('hands', 'p', 'p'), ('meets', 'p', 'p')), (), [])
    >>> joined_letters(((), ("b",)), (("takes", "b", "e"),), ())
    raises NoMember(name='e')
    >>> renamed_lines(edge, near, (("b", "x"), ("c", "x"), ("d", "z")))
    raises Unfit()
'''


SECTION_FIFTEEN = r'''
    >>> flat = ((("ann",), ("box",), (("ann", "take", "box"),)), ("ann", "box"))
    >>> shop = ((("ivy",), ("box", "cup"), (("ivy", "hand", "box"), ("ivy", "take", "cup"))), ("box", "cup"))
    >>> store = ((("dan",), ("cup",), (("cup", "own", "dan"),)), ("cup", "dan"))
    >>> promises = city_of((flat, shop, store))
    >>> early, gift, late = ("see", ("ann", "own", "dan")), ("put", ("cup", "gem", "box")), ("see", ("ann", "gem", "box"))
    >>> could_be(promises, (early, gift, late)), could_be(promises, (late, gift)), impossible_sights(promises, (late, gift, late, ("see", ("dan", "own", "ann"))))
    (True, False, (0, 3))
    >>> first_impossible(promises, (early, gift, late)), earliest(promises, (early, gift, late), ("ann", "gem", "box")), earliest(promises, (gift,), ("dan", "own", "ann"))
    (None, 2, None)
    >>> len(could_be_seen(promises, ())), len(could_be_seen(promises, (gift,))), needed_puts(promises, (early, gift, late), 2), least_puts(promises, (gift, early), 1)
    (9, 12, (1,), ((),))
    >>> needed_helpers(promises, (early,)), least_helpers(promises, (gift, late)), needed_helpers(promises, (gift,))
    ((0, 1, 2), ((0, 1),), ())
    >>> first, second = ((("ann",), ("box",)), (("home", "ann", "take", "box"),)), (((), ("box", "cup")), (("both", "cup", "cup"), ("flows", "cup", "box")))
    >>> needed_lines((first, second, (((), ("cup",)), ())), (gift, late))
    ((0, ("home", "ann", "take", "box")), (1, ("flows", "cup", "box")))
    >>> needed_puts(promises, (gift,), 0)
    raises Unfit()
'''


class Examples(unittest.TestCase):
    def test_section_thirteen(self):
        check_examples(self, SECTION_THIRTEEN, names_of(
            touchrights.cities, touchrights.lean, touchrights.secrets, touchrights.seen))

    def test_section_fourteen(self):
        check_examples(self, SECTION_FOURTEEN, names_of(
            touchrights.cities, touchrights.lean, touchrights.secrets, touchrights.seen))

    def test_section_fifteen(self):
        check_examples(self, SECTION_FIFTEEN, names_of(
            touchrights.cities, touchrights.lean, touchrights.secrets, touchrights.seen))


if __name__ == "__main__":
    unittest.main()
