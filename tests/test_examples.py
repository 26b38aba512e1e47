"""The examples that the document's interface gives, word for word."""

import unittest

from tests.examples import check_examples

BOOKS = """
>>> from sungbyturns.books import reachable_refrains
>>> reachable_refrains(((("la", 2),), (("lu",),), (("a",),)))
[0, 2]

>>> from sungbyturns.books import reachable_refrains
>>> reachable_refrains(((("la",),), ((1,),)))
raises BadBook(refrain=1, verse=0)
"""

STATES = """
>>> from sungbyturns.states import initial_state
>>> book = ((("la", 1), (1, "lu")), (("a",), ("b",), ("c",)))
>>> initial_state(book)
((0, 0), ())

>>> from sungbyturns.states import initial_state, next_words
>>> book = ((("la", 1), (1, "lu")), (("a",), ("b",), ("c",)))
>>> next_words(book, initial_state(book), 3)
[('la', ((0, 0, 0),)), ('a', ((0, 0, 1), (1, 0, 0))), ('b', ((0, 1, 0), (1, 1, 0)))]

>>> from sungbyturns.states import next_words
>>> book = ((("la", 1), (1, "lu")), (("a",), ("b",), ("c",)))
>>> next_words(book, ((0, 0), ((0, 0, 1),)), 3)
raises BadState
"""

POSITIONS = """
>>> from sungbyturns.positions import word_at
>>> from sungbyturns.states import initial_state
>>> book = ((("la", 1), (1, "lu")), (("a",), ("b",), ("c",)))
>>> word_at(book, initial_state(book), 10 ** 18)
('lu', ((0, 1, 1),))

>>> from sungbyturns.positions import word_at
>>> from sungbyturns.states import initial_state
>>> book = ((("la", 1), (1, "lu")), (("a",), ("b",), ("c",)))
>>> word_at(book, initial_state(book), 0)
raises BadCount

>>> from sungbyturns.positions import advance
>>> from sungbyturns.states import initial_state
>>> book = ((("la", 1), (1, "lu")), (("a",), ("b",), ("c",)))
>>> advance(book, initial_state(book), 3)
((0, 2), ((0, 1, 1),))

>>> from sungbyturns.positions import count_words
>>> from sungbyturns.states import initial_state
>>> book = ((("la", 1), (1, "lu")), (("a",), ("b",), ("c",)))
>>> words, verses = count_words(book, initial_state(book), 12)
>>> (sorted(words.items()), verses)
([('a', 2), ('b', 2), ('c', 2), ('la', 3), ('lu', 3)], [[3, 3], [2, 2, 2]])

>>> from sungbyturns.positions import find_word
>>> from sungbyturns.states import initial_state
>>> book = ((("la", 1), (1, "lu")), (("a",), ("b",), ("c",)))
>>> find_word(book, initial_state(book), "c", 2)
11

>>> from sungbyturns.positions import find_start
>>> from sungbyturns.states import initial_state
>>> book = ((("la", 1), (1, "lu")), (("a",), ("b",), ("c",)))
>>> find_start(book, initial_state(book), 1, 3)
5
"""


class ExamplesTest(unittest.TestCase):
    def test_books(self):
        check_examples(self, BOOKS)

    def test_states(self):
        check_examples(self, STATES)

    def test_positions(self):
        check_examples(self, POSITIONS)


if __name__ == "__main__":
    unittest.main()
