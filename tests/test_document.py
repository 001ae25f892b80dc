"""The examples that the document gives, word for word."""

import doctest
import pathlib
import unittest

README = pathlib.Path(__file__).resolve().parent.parent / "README.md"

EXAMPLES = '''
>>> from docketloom.parts import dealt, made, rounded, write
>>> dealt(10, [1, 1, 1, 0]), write(made(6, -8)), rounded((5, 2), "near")
([4, 3, 3, 0], '-3/4', 2)
>>> from docketloom.lines import read_sheet
>>> read_sheet("file a 12\\n\\n# a remark\\nfile  b 7\\nhear a")
([(1, ['file', 'a', '12']), (5, ['hear', 'a'])], [(2, 'blank'), (4, 'space')])
>>> from docketloom.loose import course_to, dead_course
>>> book = ((("answer", "month", 0),), (("claim", ("plaintiff",), (("free", "claim"),), (), (("answer", "defendant"),), (), False), ("defence", ("defendant",), (("filed", "claim"),), ("answer",), (), ("defence",), False), ("ruling", ("court",), (("lapsed", "answer"),), (), (), (), True)))
>>> course_to(book, "ruling")
[('file', 'plaintiff', 'claim'), ('serve', 'defendant', 'answer'), ('pass', 'defendant', 'answer'), ('file', 'court', 'ruling')]
>>> dead_course(book)
[('file', 'plaintiff', 'claim'), ('file', 'defendant', 'defence')]
>>> from docketloom.appeals import Matter
>>> from docketloom.finality import becomes_final, endings, is_final, may_end
>>> regimes = ("old", ((0, (((), (), (), ()), (("ten", (10, "days", "next", "no", 0)), ("two", (2, "days", "next", "no", 0))))),))
>>> matter = Matter((("ten",), "two", 0), (("debt", "", 0), ("costs", "debt", 1)), (1, 1), regimes, ())
>>> matter.judge(100, "debt", 1), matter.judge(105, "costs", 0)
('judged', 'judged')
>>> is_final(matter, 111, "debt"), may_end(matter, 111, "debt") == {0: 2, 1: 0}, may_end(matter, 111, "costs") == {0: 0, 1: 1, None: 2}
(False, True, True)
>>> endings(matter, 116), becomes_final(matter, 105, "debt"), becomes_final(matter, 105, "costs")
({(1, 0): 0}, 116, 116)
>>> from docketloom.bills import clearing, owed
>>> bill = (36500, 10, ((20, 100), (30, 40)))
>>> owed(bill, ((0, (1, 10)),), "interest", 30), clearing(bill, ((0, (1, 10)),), "interest", 30)
(((36500, 1), (60, 1), (0, 1)), 36560)
>>> from docketloom.nets import groups, payments
>>> debts = [("ann", "bob", 5), ("bob", "cid", 5), ("dan", "eve", 2)]
>>> groups(debts), payments(debts)
([('ann', 'cid'), ('dan', 'eve')], [('ann', 'cid', 5), ('dan', 'eve', 2)])
>>> from docketloom.wheels import deal, full_state, run_wheel
>>> wheel = (("ann", 2), ("bob", 1))
>>> deal(wheel, (0, 1), ("bob",), 3)
('ann', (1, 2))
>>> run_wheel(wheel, [("one", (), 2), ("two", (), 5), ("three", ("ann",), 0)])
([('one', (), 2, 'bob'), ('two', (), 5, 'ann'), ('three', ('ann',), 0, 'bob')], (3, 0))
>>> from docketloom.chances import chances, tail
>>> chances(wheel, (1, 1), ()), tail(wheel, [(), ()], "bob", 1)
((('ann', (1, 2)), ('bob', (1, 2))), (2, 3))
>>> from docketloom.bounds import Promise
>>> from docketloom.demand import demand, first_lack, supply
>>> promise = Promise(2, [((0, 1), 1, 3, 2), ((0, 1), 0, 1, 3)], (1, 4))
>>> demand(promise, 2), supply(promise, 2), first_lack(promise)
(4, 3, 2)
'''


class Document(unittest.TestCase):
    def check(self, text, name):
        test = doctest.DocTestParser().get_doctest(text, {}, name, None, 0)
        self.assertGreater(len(test.examples), 0)
        self.assertEqual(doctest.DocTestRunner().run(test).failed, 0)

    def test_examples(self):
        self.check(EXAMPLES, "examples")

    def test_readme(self):
        self.check(README.read_text(), "readme")


if __name__ == "__main__":
    unittest.main()
