"""The examples of sections 16 to 19."""

import unittest

from examples import check_examples, names_of
import touchrights.board
import touchrights.desk
import touchrights.judge
import touchrights.texts


SECTION_SIXTEEN = r'''
    >>> book, tie = (("ann", "bob"), ("box",), (("ann", "take", "box"), ("bob", "hand", "box"), ("bob", "own", "box"))), ("ann", "own", "box")
    >>> row = (("hand", "bob", "box", "own", "box"), ("take", "ann", "box", "own", "box"))
    >>> stands(("never", book, tie)), stands(("never", book, ("ann", "see", "box"))), is_paper_against(("never", book, tie), row), is_paper_against(("never", book, tie), row[:1])
    (False, True, True, False)
    >>> mending_holds(("never", book, tie)) == book[2], breaking_holds(("never", (("ann",), ("box", "ink"), (("box", "own", "ink"),)), ("ann", "own", "ink")))
    (True, (('ann', 'take', 'box'),))
    >>> edge, lines = ((), ("box", "car")), (("flows", "box", "car"),)
    >>> stands(("follows", edge, lines, ("takes", "car", "box"))), stands(("closed", edge, lines)), stands(("closed", edge, ())), stands(("lean", edge, (("both", "box", "box"), ("flows", "box", "car"))))
    (True, False, True, False)
    >>> paper_against(("closed", (("ann",), ()), (("both", "ann", "ann"), ("hands", "ann", "ann"))))
    ('meets', 'ann', 'ann')
    >>> claims = (("barred", ((edge, ()),), ("car", "own", "box")), ("closed", edge, lines))
    >>> first_fallen(claims[:1]), first_fallen(claims)[0], is_claim(("closed", edge, (("flows", "box", "ink"),)))
    (None, 1, False)
    >>> stands(("never", book, ("cy", "own", "box")))
    raises Unfit()
'''


SECTION_SEVENTEEN = r'''
    >>> book = (("ann",), ("box", "key"), (("ann", "take", "box"), ("box", "see", "key")))
    >>> book_text(book), house_text((book, ("box",)))[-23:]
    ('person ann\nthing box\nthing key\nann take box\nbox see key\n', 'box see key\nborder box\n')
    >>> read_book("person ann\nthing box\nann see ann"), read_house("thing box\nborder\n"), read_book("")
    ((('ann',), ('box',), (('ann', 'see', 'ann'),)), (((), ('box',), ()), ()), ((), (), ()))
    >>> lines_text(((), ("b", "c")), (("has", "b", "see", "c"), ("takes", "b", "c"))), read_lines("thing b\nhome b see b")
    ('thing b\nthing c\nhas b see c\ntakes b c\n', (((), ('b',)), (('home', 'b', 'see', 'b'),)))
    >>> read_deeds("make ann new thing see take\nhand ann box see new\n"), city_text(((((), ("b",)), ()),))
    ((('make', 'ann', 'new', 'thing', ('see', 'take')), ('hand', 'ann', 'box', 'see', 'new')), 'house\nthing b\n')
    >>> read_book("thing box\nperson ann")
    raises BadLine(number=1)
    >>> read_lines("thing b\ntakes b b")
    raises BadLine(number=1)
    >>> read_house("thing box\n")
    raises BadLine(number=1)
    >>> read_house("thing border\nborder see border\n")
    raises BadLine(number=1)
'''


SECTION_EIGHTEEN = r'''
    >>> near = (("ann", "bob"), ("box", "key"), (("bob", "hand", "box"), ("bob", "own", "key")))
    >>> houses = ((near, ("box", "key")), ((("cy",), ("box", "key"), (("cy", "take", "box"),)), ("box", "cy", "key")))
    >>> board = Board(houses)
    >>> board.cover("box"), board.front(), board.lets(("cy", "own", "key")), board.lets(("key", "own", "box"))
    (None, ((('cy',), ('key',)), (('both', 'cy', 'cy'), ('hands', 'cy', 'cy'), ('has', 'cy', 'own', 'key'), ('home', 'cy', 'own', 'key'), ('meets', 'cy', 'cy'), ('puts', 'cy', 'own', 'key'))), True, False)
    >>> board.vow(0, board.page(0)), board.kept(), board.act(0, ("hand", "bob", "box", "own", "key")), board.opened(), board.kept()
    (None, (0,), None, (), (0,))
    >>> board.let_in(0, ("ann", "take", "key")), board.opened(), board.kept(), board.broken(0), board.shut()
    (None, (('both', 'key', 'key'), ('puts', 'key', 'take', 'key')), (), (('both', 'key', 'key'), ('puts', 'key', 'take', 'key')), ())
    >>> board.note(("cy", "own", "key")), board.note(("key", "own", "box")), board.strange(), board.undo(), board.notes(), board.covered(), len(board)
    (None, None, (1,), None, (('cy', 'own', 'key'),), ('box',), 5)
    >>> board.act(0, ("take", "ann", "box", "own", "key"))
    raises Unfit()
    >>> board.strike(0, ("ann", "take", "box"))
    raises NoHold(hold=('ann', 'take', 'box'))
'''


SECTION_NINETEEN = r'''
    >>> replies(houses, "cover box\nfront\nlets cy own key\nvow 0 -\nkept\nbroken 1\nact 0 hand bob box own key\nopened\nlet 0 ann take key\nopened\nstrike 0 bob hand box\nshut\ncovered\ndeeds")
    ['done', 'both cy cy / hands cy cy / has cy own key / home cy own key / meets cy cy / puts cy own key', 'yes', 'done', '-', '-', 'done', '-', 'done', 'both key key / puts key take key', 'done', '-', 'box', '5']
    >>> replies(houses, "act 0 make ann zed thing own+see\nact 1 make cy zed person *\nact 0 make ann zed person *\nholds 0\nact 2 make ann x thing *\nact 0 take box box own key\nstrike 1 cy own key\ncover ann\nundo\nundo\nnotes")
    ['done', 'refused Twice', 'refused Unfit', 'ann own zed / ann see zed / bob hand box / bob own key', 'refused NoNumber', 'refused Unfit', 'refused NoHold', 'refused NoMember', 'done', 'refused NothingDone', '-']
    >>> is_request("vow 0 has box own key / has box own key"), is_request("vow 0 both key key / puts key take key"), is_request("act 0 make ann b thing own+a"), is_request("note a b"), is_request("lets a b c"), replies(houses, "")
    (False, True, False, False, True, [])
    >>> replies(houses, "front\nact 0 give a b c d")
    raises BadLine(number=1)
'''


class Examples(unittest.TestCase):
    def test_section_sixteen(self):
        check_examples(self, SECTION_SIXTEEN, names_of(
            touchrights.board, touchrights.desk, touchrights.judge, touchrights.texts))

    def test_section_seventeen(self):
        check_examples(self, SECTION_SEVENTEEN, names_of(
            touchrights.board, touchrights.desk, touchrights.judge, touchrights.texts))

    def test_section_eighteen_and_nineteen(self):
        check_examples(self, SECTION_EIGHTEEN + SECTION_NINETEEN, names_of(
            touchrights.board, touchrights.desk, touchrights.judge, touchrights.texts))


if __name__ == "__main__":
    unittest.main()
