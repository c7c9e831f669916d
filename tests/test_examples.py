"""The examples of the document, and those of README.md."""

import doctest
import pathlib
import unittest

README = pathlib.Path(__file__).resolve().parent.parent / "README.md"

EXAMPLES = r"""
>>> from fourwalls.books import Book
>>> book = Book('ab', 'A', ('a', '.', '.', '.', 'A', '|ab'))
>>> [book.cut('aaaa', 'A'), book.parts('aaaa', 'A'), book.cut('baaa', 'A')]
['|ab', ['aaaa', 'aaab'], '']

>>> from fourwalls.books import Book
>>> from fourwalls.rooms import play, reached
>>> book = Book('ab', 'AB', ('.', '.', '.', '.', 'A', '|ab'), ('.', '.', '.', '.', 'B', '-ba'))
>>> [play(book, 'aaaa', [('', 'A'), ('1', 'B')]), reached(Book('ab', 'A', ('.', '.', '.', '.', 'A', '|bb')), 'aaaa')]
[[('0', 'aaaa'), ('10', 'aabb'), ('11', 'aaab')], ['aaaa', 'aaab', 'abaa', 'abab']]

>>> from fourwalls.books import Book
>>> from fourwalls.views import rows_seen
>>> book = Book('ab', 'AB', ('.', '.', '.', '.', 'A', '|ab'), ('.', '.', '.', '.', 'B', '-ba'))
>>> history = [('', 'A'), ('1', 'B')]
>>> [list(rows_seen(book, 'aaaa', history, 'E')), list(rows_seen(book, 'aaaa', history, 'A'))]
[[['10', '11']], [['0', '10'], ['0', '11']]]

>>> from fourwalls.books import Book
>>> from fourwalls.kept import verdict
>>> from fourwalls.machines import Machine
>>> book = Book('ab', 'A', ('.', '.', '.', '.', 'A', '|ab'))
>>> [verdict(book, 'aaaa', 'N', Machine.without('ab', 'bb')).told(), verdict(book, 'aaaa', 'N', Machine.without('ab', 'ba')).told()]
['safe', 'broken by 2 cuts']

>>> from fourwalls.books import Book
>>> from fourwalls.weigh import greatest
>>> from fourwalls.weights import Weights
>>> book = Book('ab', 'A', ('.', '.', '.', '.', 'A', '|ab'))
>>> [greatest(book, 'aaaa', 'E', Weights('ab', each=1, b=2)).told(), greatest(book, 'aaaa', 'N', Weights('ab', each=1)).WORD]
['peak 3', 'rise']

>>> from fourwalls.books import Book
>>> from fourwalls.plans import meeting, walk_at
>>> from fourwalls.ratios import Ratio
>>> book = Book('ab', 'AB', ('.', '.', '.', '.', 'A', '|ab'), ('.', '.', '.', '.', 'B', '-ba'))
>>> steps = [('', 'A', 1, 3), ('1', 'B', 1, 2)]
>>> [meeting(book, 'aaaa', steps), walk_at(book, 'aaaa', steps, 'A', Ratio(1, 4))]
[[('-', '10', '11'), ('|', '0', '10'), ('|', '0', '11')], ['0', '10']]

>>> from fourwalls.books import Book
>>> from fourwalls.touch import touch_of
>>> book = Book('ab', 'A', ('.', '.', '.', '.', 'A', '|ab'))
>>> found = touch_of(book, 'aaaa', '|', 'aaab', 'aaab')
>>> [found.told(), len(found.steps()), touch_of(book, 'aaaa', '-', 'aaaa', 'aaaa')]
['touch aaab | aaab', 2, None]

>>> from fourwalls.back import Back
>>> from fourwalls.books import Book
>>> from fourwalls.grids import Plan
>>> book = Book('ab', 'A', ('.', '.', '.', '.', 'A', '|ab'))
>>> back = Back(book, 'aaaa', Plan('ab', 3, 1, [(0, 0, 1, 1, 'aaaa'), (1, 0, 2, 1, 'aaab'), (2, 0, 3, 1, 'aaab')]))
>>> [back.comes(), back.trees(), back.histories(), back.first_cuts()]
[True, 2, 2, [('|', 1, 'A'), ('|', 2, 'A')]]

>>> from fourwalls.books import Book
>>> from fourwalls.live import Floor
>>> book = Book('ab', 'A', ('.', '.', '.', '.', 'A', '|ab'))
>>> floor = Floor(book, 'aaaa')
>>> [floor.cut('', 'A', 2, 6), floor.cuts(), floor.area('1').text(), floor.unite(''), floor.history()]
['|ab', [('', 'A', 1, 3)], '2/3', 'A', (2, 0)]

>>> from fourwalls.books import Book
>>> from fourwalls.desk import Desk
>>> from fourwalls.live import Floor
>>> book = Book('ab', 'AB', ('.', '.', '.', '.', 'A', '|ab'), ('.', '.', '.', '.', 'B', '-ba'))
>>> desk = Desk(Floor(book, 'aaaa'))
>>> [desk('cut . A'), desk('side N'), desk('meet 0 1'), desk('unite 0'), desk('wish N without ba'), desk('walk')]
['|ab', 'aaaa aaab', '|', 'error InvalidAddress', 'broken by 1 cuts', 'unknown']

>>> from fourwalls.books import Book
>>> from fourwalls.errors import InvalidStep
>>> from fourwalls.rooms import play
>>> book = Book('ab', 'A', ('.', '.', '.', '.', 'A', '|ab'))
>>> try:
...     play(book, 'aaaa', [('', 'A'), ('', 'A')])
... except InvalidStep as error:
...     error.at
1

>>> from fourwalls.books import Book
>>> from fourwalls.live import Floor
>>> from fourwalls.pages import write_page
>>> book = Book('ab', 'A', ('.', '.', '.', '.', 'A', '|ab'))
>>> floor = Floor(book, 'aaaa')
>>> cut = floor.cut('', 'A')
>>> write_page(floor)
'ab A\n. . . . A |ab\nfloor aaaa\ncut . A 1 2\n'
"""


def failures(text):
    """Return how many of the examples in a text failed, and how many there are."""
    examples = doctest.DocTestParser().get_doctest(text, {}, "examples", None, 0)
    results = doctest.DocTestRunner(verbose=False).run(examples)
    return results.failed, results.attempted


class Examples(unittest.TestCase):
    def test_those_of_the_document(self):
        self.assertEqual(failures(EXAMPLES), (0, EXAMPLES.count("\n>>> ")))

    def test_those_of_the_readme(self):
        failed, many = failures(README.read_text().replace("```", ""))
        self.assertEqual(failed, 0)
        self.assertGreater(many, 40)


if __name__ == "__main__":
    unittest.main()
