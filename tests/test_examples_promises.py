"""The examples of sections 9 to 12."""

import unittest

from examples import check_examples, names_of
from test_examples_cities import SECTION_EIGHT
import touchrights.blame
import touchrights.cities
import touchrights.follows
import touchrights.offers
import touchrights.promises
import touchrights.unsure


SECTION_NINE = r'''
    >>> own = ("ann", "own", "dan")
    >>> calm = city[:2] + (emptied(city[2][0]),)
    >>> barred(city, own), barred(calm, own), keeps(store, calm[2][1]), keeps(store, city[2][1]), kept_places((flat, shop, store), calm)
    (False, True, False, True, (0, 1))
    >>> is_keepers_for(city, own, (flat, shop, store)), is_keepers_for(calm, own, (flat, shop, store)), keepers_for(calm, own), shield(city, own), is_shield(calm, own, all_lines(calm))
    (True, False, None, None, True)
    >>> free_places(calm, own), least_enough(calm, own), barred_but(calm, (0, 1), own), barred_but(calm, (2,), own)
    ((0, 1), [(2,)], True, False)
    >>> line, small = ("home", "cup", "own", "dan"), spare_lines(calm, 2, own)
    >>> len(small), line in small, len(full_plot(calm[2][0], ("own",))[1]), freed(calm, (2,), "own")[2] == full_plot(calm[2][0], ("own",))
    (43, False, 48, True)
    >>> still = (city[0], emptied(city[1][0]), calm[2])
    >>> more = ((1, ("hands", "cup", "box")), (1, ("takes", "box", "cup")), (2, ("has", "cup", "own", "dan")), (2, line))
    >>> least_enough(still, own), least_clashes(still, more, own), greatest_more(still, more, own), barred(let_more(still, more[1:3]), own), let_more(calm, more[3:]) == city
    ([(1,), (2,)], [(1, 2), (1, 3)], [(0, 1), (0, 2, 3)], False, True)
    >>> barred_but(calm, (0, 3), ("eva", "own", "dan"))
    raises NoNumber(number=3)
'''


SECTION_TEN = r'''
    >>> ann, cy, dan = (("ann",), ("box",)), (("cy",), ("box",)), (("dan",), ("box",))
    >>> hands = all_that_follow(ann, (("home", "ann", "hand", "box"),))
    >>> promises = ((ann, hands), (cy, all_that_follow(cy, (("home", "cy", "take", "box"),))), (dan, all_that_follow(dan, ())))
    >>> unbars, sees = ("cy", "open", "box"), ("cy", "see", "ann")
    >>> least_breakers(promises, (("cy", "hand", "box"),)), least_breakers(promises, (unbars,)), least_breakers(promises, (unbars, sees)), are_breakers(promises, (sees,), (1, 2))
    ([()], [(0,), (1,), (2,)], [(0,)], False)
    >>> surely_broke(promises, (unbars, sees)), maybe_broke(promises, (unbars,)), first_proof(promises, (("ann", "take", "box"), unbars, sees)), blame_alike(promises + promises[2:])
    ((0,), (0, 1, 2), 1, [(2, 3)])
    >>> blamed_lines(promises, (unbars,), 2)
    (('has', 'box', 'open', 'box'), ('home', 'box', 'open', 'box'), ('puts', 'box', 'open', 'box'))
    >>> opened = all_that_follow(ann, (("home", "ann", "hand", "box"), ("home", "ann", "open", "box")))
    >>> least_breakers_knowing(promises, (unbars,), ((0, hands),)), least_breakers_knowing(promises, (unbars,), ((0, opened),)), breaking_houses(promises, (sees,), (1, 2))
    ([(1,), (2,)], [()], None)
    >>> flat, shop, hut = ((("ann",), ("box",), (("ann", "hand", "box"), ("ann", "see", "ann"))), ("ann", "box")), ((("cy",), ("box",), (("cy", "take", "box"),)), ("box", "cy")), ((("dan",), ("box",), ()), ("box", "dan"))
    >>> [is_breaking_houses(promises, (sees,), some, (flat, shop, hut)) for some in ((0,), (1,))]
    [True, False]
    >>> least_breakers(promises, (("eve", "open", "box"),))
    raises NoMember(name='eve')
'''


SECTION_ELEVEN = r'''
    >>> one = ((("ann", "bob"), ("box",), (("ann", "take", "bob"), ("bob", "own", "box"))), ("ann", "box"))
    >>> other = ((("cy",), ("box", "ink"), (("cy", "take", "box"),)), ("box", "cy", "ink"))
    >>> city, hold = city_of((one, other)), ("cy", "own", "box")
    >>> offers = (("ann", "hand", "box"), ("ann", "hand", "ink"), ("cy", "take", "ink"))
    >>> comes_with(city, (), hold), comes_with(city, offers[:1], hold), comes_with(city, offers[1:2], hold), comes_with(city, offers[1:], hold)
    (False, True, False, True)
    >>> is_safe(city, offers[1:2], (hold,)), safe_offers(city, offers, (hold,)), clashing_offers(city, offers, (hold,))
    (True, (('ann', 'hand', 'ink'), ('cy', 'take', 'ink')), ((('ann', 'hand', 'ink'), ('cy', 'take', 'ink')),))
    >>> greatest_safe(city, offers, (hold,)), fewest_offers(city, offers, hold), fewest_offers(city, (), hold)
    ([(('ann', 'hand', 'ink'),), (('cy', 'take', 'ink'),)], (('ann', 'hand', 'box'),), None)
    >>> len(all_least_offers(city, offers, hold)), all_least_offers(city, offers, hold)[1] == offers[1:], needed_offers(city, offers, hold), needed_offers(city, offers[1:], hold) == offers[1:]
    (2, True, (), True)
    >>> all_least_seals(city, offers, hold) == [offers[:2], offers[::2]], fewest_seals(city, offers, hold) == offers[:2], all_least_seals(city, offers, ("ann", "own", "box")), fewest_seals(city, (), hold)
    (True, True, [], ())
    >>> opened_with(city, offers[:1])[:3], len(opened_with(city, offers[:1])), len(offered_city(city, offers)), offered_city(city, offers)[4][0]
    ((('ann', 'hand', 'box'), ('ann', 'take', 'box'), ('box', 'hand', 'box')), 7, 5, (('cy',), ('ink',)))
    >>> comes_with(city, offers, ("cy", "own", "bob"))
    raises NoMember(name='bob')
'''


SECTION_TWELVE = r'''
    >>> near, far = (("ann",), ("box",)), (("cy",), ("box",))
    >>> hands, takes = all_that_follow(near, (("home", "ann", "hand", "box"),)), all_that_follow(far, (("home", "cy", "take", "box"),))
    >>> opened = all_that_follow(near, (("home", "ann", "hand", "box"), ("home", "ann", "open", "box")))
    >>> city, promises, goal = ((near, hands), (far, all_that_follow(far, ()))), ((near, opened), (far, takes)), ("cy", "open", "box")
    >>> surely_lets(city, promises, goal), maybe_lets(city, promises, goal), least_if(city, promises, goal), least_unless(city, promises, goal), deciding_lines(city, promises, goal)
    (False, True, [(0, 1)], [(0,), (1,)], [])
    >>> told = told_more(city, promises, 1, ("home", "cy", "take", "box"))
    >>> told[1][1] == takes, unsure_places(told, promises), least_if(told, promises, goal), len(least_lines_if(told, promises, goal)), surely_more(city, promises, (goal,))
    (True, (0,), [(0,)], 5, (0, 1))
    >>> deciding_lines(told, promises, goal)
    [(0, ('has', 'ann', 'open', 'box')), (0, ('has', 'box', 'open', 'box')), (0, ('home', 'ann', 'open', 'box')), (0, ('home', 'box', 'open', 'box')), (0, ('puts', 'ann', 'open', 'box'))]
    >>> letting_city(city, promises, (goal,), (1,)), is_letting_city(city, promises, (goal,), (0, 1), promises), fits_between(city, promises, 1, takes)
    (None, True, True)
    >>> surely_lets(promises, city, goal)
    raises Unfit()
'''

MODULES = (
    touchrights.follows, touchrights.cities, touchrights.promises, touchrights.blame, touchrights.offers,
    touchrights.unsure,
)


class Examples(unittest.TestCase):
    def test_section_nine(self):
        # flat, shop, store and city are those of section 8.
        check_examples(self, SECTION_EIGHT + SECTION_NINE, names_of(*MODULES))

    def test_section_ten(self):
        check_examples(self, SECTION_TEN, names_of(*MODULES))

    def test_section_eleven(self):
        check_examples(self, SECTION_ELEVEN, names_of(*MODULES))

    def test_section_twelve(self):
        check_examples(self, SECTION_TWELVE, names_of(*MODULES))


if __name__ == "__main__":
    unittest.main()
