"""The examples of sections 5 and 6."""

import unittest

from examples import check_examples, names_of
import touchrights.ever
import touchrights.letters
import touchrights.outsides
import touchrights.touches


SECTION_FIVE = r'''
    >>> book = (("ann", "bob", "cy", "dan"), ("box", "key"), (("ann", "take", "box"), ("bob", "hand", "box"), ("bob", "own", "key"), ("cy", "take", "bob"), ("dan", "take", "key")))
    >>> reach(book, "ann"), gifts(book, "cy"), brought(book, "cy"), circles(book)
    (('ann', 'box'), ('box',), (('hand', 'box'), ('own', 'key'), ('take', 'bob')), (('ann', 'bob', 'cy'), ('dan',)))
    >>> touch_of(book, "bob", "ann"), touch_of(book, "bob", "cy"), touch_of(book, "ann", "dan"), row_of_touches(book, "ann", "cy"), row_of_touches(book, "cy", "dan")
    ('gives', 'reached', None, ('ann', 'cy'), None)
    >>> can_ever(book, ("ann", "own", "key")), can_ever(book, ("box", "own", "key")), can_ever(book, ("dan", "own", "key")), who_can(book, "take", "box")
    (True, True, False, ('ann', 'bob', 'box', 'cy'))
    >>> fewest_who_act(book, ("ann", "own", "key")), can_with(book, ("ann", "cy"), ("ann", "own", "key")), can_with(book, ("cy",), ("ann", "own", "key"))
    (2, True, False)
    >>> opened_by((("ann", "bob"), (), (("ann", "own", "bob"),)), ("bob", "take", "ann"))
    (('ann', 'take', 'ann'), ('bob', 'own', 'bob'), ('bob', 'take', 'ann'))
    >>> is_closed_table(book, book), len(closed_table(book)[2]), deeds_for(book, ("dan", "own", "key"))
    (False, 17, None)
'''


SECTION_SIX = r'''
    >>> house = ((("ann",), ("box", "ink"), (("ann", "hand", "ink"), ("ann", "take", "box"))), ("box", "ink"))
    >>> edge_of(house), inner_of(house), is_house(house), is_house(house[0])
    (((), ('box', 'ink')), (('ann',), ()), True, False)
    >>> letter_of(house)
    (('both', 'box', 'box'), ('flows', 'box', 'ink'), ('hands', 'ink', 'ink'), ('has', 'ink', 'hand', 'ink'), ('has', 'ink', 'take', 'box'), ('home', 'ink', 'hand', 'ink'), ('home', 'ink', 'take', 'box'), ('meets', 'ink', 'ink'), ('puts', 'box', 'hand', 'ink'), ('puts', 'box', 'take', 'box'), ('takes', 'ink', 'box'))
    >>> has_line(house, ("takes", "box", "ink")), shown_by(house, ("takes", "box", "ink")), question_of(house, ("flows", "box", "ink"))[0][0], question_of(house, ("flows", "box", "ink"))[1][0]
    (False, None, (), 'ink')
    >>> is_shown_by(house, ("home", "ink", "take", "box"), (("hand", "ann", "ink", "take", "box"),)), is_shown_by(house, ("home", "ink", "take", "box"), ())
    (True, False)
    >>> gained(house, ("box", "own", "ink"))
    (('has', 'box', 'own', 'ink'), ('has', 'ink', 'own', 'ink'), ('home', 'box', 'own', 'ink'), ('home', 'ink', 'own', 'ink'), ('puts', 'box', 'own', 'ink'))
    >>> needed_holds(house, ("flows", "box", "ink")), needed_holds(house, ("has", "ink", "hand", "ink"))
    ((('ann', 'hand', 'ink'), ('ann', 'take', 'box')), (('ann', 'hand', 'ink'),))
    >>> edge = (("dan",), ("box",))
    >>> [is_line(edge, line) for line in (("home", "dan", "own", "box"), ("takes", "dan", "dan"), ("meets", "dan", "box"), ("has", "box", "take", "box"), ["both", "box", "box"])], len(lines_of(edge, ("take",)))
    ([True, False, False, False, False], 24)
    >>> letter_of(((("dan",), (), ()), ("dan",))), is_lines(edge, (("both", "box", "box"), ("home", "box", "own", "dan"))), is_lines(edge, ())
    ((('both', 'dan', 'dan'), ('hands', 'dan', 'dan'), ('meets', 'dan', 'dan')), True, True)
    >>> has_line(house, ("hands", "ann", "ink"))
    raises NoMember(name='ann')
    >>> needed_holds(house, ("takes", "box", "ink"))
    raises Unfit()
    >>> carrier = ((("kay",), ("box", "car"), (("kay", "hand", "car"), ("kay", "take", "box"))), ("box", "car"))
    >>> owner = ((("kay",), ("box", "car"), (("kay", "own", "box"),)), ("box", "car"))
    >>> lets_no_more(owner, carrier), lets_no_more(carrier, owner), alike_outside(owner, ((("sam",), ("box", "car"), ()), ("box", "car"))), telling_outside(owner, carrier)
    (True, False, True, None)
    >>> outside = (("sam",), ("box", "car", "toy"), (("box", "own", "toy"),))
    >>> is_telling(carrier, owner, (outside, ("car", "own", "toy"))), is_telling(carrier, owner, (outside, ("sam", "own", "toy"))), is_telling(carrier, owner, telling_outside(carrier, owner))
    (True, False, True)
    >>> lets(carrier, outside, ("car", "own", "toy")), lets(owner, outside, ("car", "own", "toy")), brought_outside(carrier, outside), brought_outside(owner, outside)
    (True, False, (('car', 'hand', 'car'), ('car', 'own', 'toy'), ('car', 'take', 'box')), ())
    >>> is_outside(carrier, outside), is_outside(carrier, (("car", "sam"), ("box",), ())), put_beside(owner, outside)
    (True, False, (('kay', 'sam'), ('box', 'car', 'toy'), (('box', 'own', 'toy'), ('kay', 'own', 'box'))))
    >>> lets(carrier, outside, ("kay", "own", "toy"))
    raises NoMember(name='kay')
    >>> hidden_holds(carrier), hidden_holds(owner), hidden_people(carrier), hidden_people(owner), idle_border(carrier), idle_border(owner)
    ([], [('kay', 'own', 'box')], (), ('kay',), (), ('box', 'car'))
    >>> lets_no_more(carrier, (carrier[0], ("box",)))
    raises Unfit()
'''


class Examples(unittest.TestCase):
    def test_section_five(self):
        check_examples(self, SECTION_FIVE, names_of(touchrights.touches, touchrights.ever))

    def test_section_six(self):
        check_examples(self, SECTION_SIX, names_of(touchrights.letters, touchrights.outsides))


if __name__ == "__main__":
    unittest.main()
