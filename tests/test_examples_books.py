"""The examples of sections 3 and 4."""

import unittest

from examples import check_examples, names_of
import touchrights.books
import touchrights.deeds


SECTION_THREE = r'''
    >>> book = (("ann", "bob"), ("box", "own"), (("ann", "take", "bob"), ("bob", "own", "box"), ("box", "own", "box")))
    >>> is_book(book), is_book((("ann",), ("ann",), ())), is_hold(book, ("bob", "own", "box")), is_hold(book, ["bob", "own", "box"]), members_of(book), rights_in(book)
    (True, False, True, False, ('ann', 'bob', 'box', 'own'), ('own', 'take'))
    >>> holds_of(book, "bob"), held_to(book, "box"), is_person(book, "own")
    ((('own', 'box'),), (('bob', 'own'), ('box', 'own')), False)
    >>> with_person(book, "al")[0], with_hold(book, ("own", "hand", "ann"))[2][3], without_hold(book, ("ann", "take", "bob"))[2], without_member(book, "box")
    (('al', 'ann', 'bob'), ('own', 'hand', 'ann'), (('bob', 'own', 'box'), ('box', 'own', 'box')), (('ann', 'bob'), ('own',), (('ann', 'take', 'bob'),)))
    >>> renamed(book, "own", "key")[1], renamed(book, "box", "a")[2], part_of(book, ("bob", "box"))
    (('box', 'key'), (('a', 'own', 'a'), ('ann', 'take', 'bob'), ('bob', 'own', 'a')), (('bob',), ('box',), (('bob', 'own', 'box'), ('box', 'own', 'box'))))
    >>> turned_still(book, ("bob", "box"))[:2], turned_alive(book, ("box",))[:2], common_members(book, (("box",), ("ann",), ()))
    ((('ann',), ('bob', 'box', 'own')), (('ann', 'bob', 'box'), ('own',)), ('ann', 'box'))
    >>> beside(book, (("bob", "cy"), (), (("cy", "hand", "bob"),)))[2], lies_in((("bob",), ("box",), ()), book), lies_in((("box",), (), ()), book)
    ((('ann', 'take', 'bob'), ('bob', 'own', 'box'), ('box', 'own', 'box'), ('cy', 'hand', 'bob')), True, False)
    >>> with_thing(book, "ann")
    raises Twice(name='ann')
    >>> renamed(book, "bob", "Bob")
    raises Unfit()
    >>> without_hold(book, ("ann", "own", "box"))
    raises NoHold(hold=('ann', 'own', 'box'))
'''


SECTION_FOUR = r'''
    >>> book = (("ann", "bob"), ("box",), (("ann", "take", "bob"), ("bob", "own", "box")))
    >>> nest, lend = ("make", "bob", "nest", "thing", ("hand", "take")), ("hand", "bob", "nest", "own", "box")
    >>> deeds = (nest, ("take", "ann", "bob", "take", "nest"), lend, ("make", "ann", "zoe", "person", ()), ("take", "ann", "nest", "own", "box"))
    >>> behind(book, deeds)[:2], new_holds(book, deeds)
    ((("ann", "bob", "zoe"), ("box", "nest")), (("ann", "own", "box"), ("ann", "take", "nest"), ("bob", "hand", "nest"), ("bob", "take", "nest"), ("nest", "own", "box")))
    >>> hold = ("ann", "own", "box")
    >>> needed_deeds(book, deeds, hold), lean_row(book, deeds, hold)[2:], first_with(book, deeds, hold)
    ((0, 1, 2, 4), (("hand", "bob", "nest", "own", "box"), ("take", "ann", "nest", "own", "box")), 5)
    >>> done_without(book, deeds, (2,)), behind_without(book, deeds, (0,))[2], open_deeds(book)
    ((0, 1, 3), (("ann", "take", "bob"), ("bob", "own", "box")), (("take", "ann", "bob", "own", "box"),))
    >>> may_do(book, lend), first_barred(book, (nest, lend, nest)), wanted_by(lend), doers(deeds), made_names(deeds)
    (False, 2, (("bob", "hand", "nest"), ("bob", "own", "box")), ("ann", "bob"), ("nest", "zoe"))
    >>> is_row_for(book, hold, deeds), is_lean_row(book, hold, deeds), is_lean_row(book, hold, (("take", "ann", "bob", "own", "box"),)), is_deed(("make", "ann", "x", "thing", ("take", "hand")))
    (True, False, True, False)
    >>> behind(book, (nest, nest))
    raises Barred(number=1)
'''


class Examples(unittest.TestCase):
    def test_section_three(self):
        check_examples(self, SECTION_THREE, names_of(touchrights.books))

    def test_section_four(self):
        check_examples(self, SECTION_FOUR, names_of(touchrights.books, touchrights.deeds))


if __name__ == "__main__":
    unittest.main()
