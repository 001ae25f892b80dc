"""The examples that the document gives, word for word."""

import doctest
import pathlib
import unittest

README = pathlib.Path(__file__).resolve().parent.parent / "README.md"

EXAMPLES = '''
>>> from docketloom.parts import dealt, made, rounded, write
>>> dealt(10, [1, 1, 1, 0]), write(made(6, -8)), rounded((5, 2), "near")
([4, 3, 3, 0], '-3/4', 2)
>>> from docketloom.lines import read_sheet
>>> read_sheet("file a 12\\n\\n# a remark\\nfile  b 7\\nhear a")
([(1, ['file', 'a', '12']), (5, ['hear', 'a'])], [(2, 'blank'), (4, 'space')])
'''


class Document(unittest.TestCase):
    def check(self, text, name):
        test = doctest.DocTestParser().get_doctest(text, {}, name, None, 0)
        self.assertGreater(len(test.examples), 0)
        self.assertEqual(doctest.DocTestRunner().run(test).failed, 0)

    def test_examples(self):
        self.check(EXAMPLES, "examples")

    def test_readme(self):
        self.check(README.read_text(), "readme")


if __name__ == "__main__":
    unittest.main()
