"""The examples that the document's interface gives, word for word."""

import unittest

from tests.examples import check_examples

BOOKS = """
>>> from sungbyturns.books import reachable_refrains
>>> reachable_refrains(((("la", 2),), (("lu",),), (("a",),)))
[0, 2]

>>> from sungbyturns.books import reachable_refrains
>>> reachable_refrains(((("la",),), ((1,),)))
raises BadBook(refrain=1, verse=0)
"""

STATES = """
>>> from sungbyturns.states import initial_state
>>> book = ((("la", 1), (1, "lu")), (("a",), ("b",), ("c",)))
>>> initial_state(book)
((0, 0), ())

>>> from sungbyturns.states import initial_state, next_words
>>> book = ((("la", 1), (1, "lu")), (("a",), ("b",), ("c",)))
>>> next_words(book, initial_state(book), 3)
[('la', ((0, 0, 0),)), ('a', ((0, 0, 1), (1, 0, 0))), ('b', ((0, 1, 0), (1, 1, 0)))]

>>> from sungbyturns.states import next_words
>>> book = ((("la", 1), (1, "lu")), (("a",), ("b",), ("c",)))
>>> next_words(book, ((0, 0), ((0, 0, 1),)), 3)
raises BadState
"""

POSITIONS = """
>>> from sungbyturns.positions import word_at
>>> from sungbyturns.states import initial_state
>>> book = ((("la", 1), (1, "lu")), (("a",), ("b",), ("c",)))
>>> word_at(book, initial_state(book), 10 ** 18)
('lu', ((0, 1, 1),))

>>> from sungbyturns.positions import word_at
>>> from sungbyturns.states import initial_state
>>> book = ((("la", 1), (1, "lu")), (("a",), ("b",), ("c",)))
>>> word_at(book, initial_state(book), 0)
raises BadCount

>>> from sungbyturns.positions import advance
>>> from sungbyturns.states import initial_state
>>> book = ((("la", 1), (1, "lu")), (("a",), ("b",), ("c",)))
>>> advance(book, initial_state(book), 3)
((0, 2), ((0, 1, 1),))

>>> from sungbyturns.positions import count_words
>>> from sungbyturns.states import initial_state
>>> book = ((("la", 1), (1, "lu")), (("a",), ("b",), ("c",)))
>>> words, verses = count_words(book, initial_state(book), 12)
>>> (sorted(words.items()), verses)
([('a', 2), ('b', 2), ('c', 2), ('la', 3), ('lu', 3)], [[3, 3], [2, 2, 2]])

>>> from sungbyturns.positions import find_word
>>> from sungbyturns.states import initial_state
>>> book = ((("la", 1), (1, "lu")), (("a",), ("b",), ("c",)))
>>> find_word(book, initial_state(book), "c", 2)
11

>>> from sungbyturns.positions import find_start
>>> from sungbyturns.states import initial_state
>>> book = ((("la", 1), (1, "lu")), (("a",), ("b",), ("c",)))
>>> find_start(book, initial_state(book), 1, 3)
5
"""

REWINDING = """
>>> from sungbyturns.rewinding import rewind
>>> book = ((("la", 1), (1, "lu")), (("a",), ("b",), ("c",)))
>>> rewind(book, ((0, 2), ((0, 1, 1),)), 3)
((0, 0), ())
"""

PERIODS = """
>>> from sungbyturns.periods import advance_songs
>>> book = ((("la", 1), (1, "lu")), (("a",), ("b",), ("c",)))
>>> advance_songs(book, (0, 0), 5)
(10, (1, 2))

>>> from sungbyturns.periods import period
>>> book = ((("la", 1), (1, "lu")), (("a",), ("b",), ("c",)))
>>> period(book)
(6, 12)

>>> from sungbyturns.periods import average_length
>>> book = ((("la", 1), (1, "lu")), (("a",), ("b",), ("c",)))
>>> average_length(book)
(2, 1)

>>> from sungbyturns.periods import frequencies
>>> book = ((("la", 1), (1, "lu")), (("a",), ("b",), ("c",)))
>>> sorted(frequencies(book).items())
[('a', (1, 6)), ('b', (1, 6)), ('c', (1, 6)), ('la', (1, 4)), ('lu', (1, 4))]
"""

CERTIFICATES = """
>>> from sungbyturns.certificates import make_certificate
>>> book = ((("la", 1), (1, "lu")), (("a",), ("b",), ("c",)))
>>> make_certificate(book, "a")
(((1, 3), (1, 3)), (((0, 1), (0, 1)), ((0, 1), (2, 3), (1, 3))))

>>> from sungbyturns.certificates import check_certificate, make_certificate
>>> book = ((("la", 1), (1, "lu")), (("a",), ("b",), ("c",)))
>>> check_certificate(book, "b", make_certificate(book, "a"))
(1, 0)

>>> from sungbyturns.certificates import check_certificate
>>> book = ((("la", 1), (1, "lu")), (("a",), ("b",), ("c",)))
>>> check_certificate(book, "a", ((), ()))
raises BadCertificate

>>> from sungbyturns.certificates import count_by_certificate, make_certificate
>>> book = ((("la", 1), (1, "lu")), (("a",), ("b",), ("c",)))
>>> count_by_certificate(book, "a", make_certificate(book, "a"), (0, 0), (1, 2), 5)
(2, 1)

>>> from sungbyturns.certificates import max_deviation
>>> book = ((("la", 1), (1, "lu")), (("a",), ("b",), ("c",)))
>>> max_deviation(book, "a")
(2, 3)
"""

SIMPLIFYING = """
>>> from sungbyturns.simplifying import simplify
>>> simplify(((("la", 1), ("la", 1)), (("lu",),)), (1, 0))
(((('la', 'lu'),),), (0,))

>>> from sungbyturns.simplifying import first_difference
>>> from sungbyturns.states import initial_state
>>> book = ((("la", 1), (1, "lu")), (("a",), ("b",), ("c",)))
>>> first_difference(book, initial_state(book), book, ((0, 1), ()), 9)
2
"""

INFERENCE = """
>>> from sungbyturns.inference import infer_turns
>>> book = ((("la", 1), (1, "lu")), (("a",), ("b",), ("c",)))
>>> infer_turns(book, ["la", "c"])
(1, (0, 2), ['a'])

>>> from sungbyturns.inference import infer_turns
>>> book = ((("la", 1), (1, "lu")), (("a",), ("b",), ("c",)))
>>> infer_turns(book, [])
(6, (None, None), ['a', 'b', 'c', 'la'])
"""

EDITING = """
>>> from sungbyturns.editing import set_turn
>>> book = ((("la", 1), (1, "lu")), (("a",), ("b",), ("c",)))
>>> set_turn(book, ((0, 0), ()), 1, 2)
((0, 2), ())

>>> from sungbyturns.editing import set_turn
>>> book = ((("la", 1), (1, "lu")), (("a",), ("b",), ("c",)))
>>> set_turn(book, ((1, 0), ((0, 0, 1),)), 0, 0)
raises RefrainBusy

>>> from sungbyturns.editing import stop_song
>>> book = ((("la", 1), (1, "lu")), (("a",), ("b",), ("c",)))
>>> stop_song(book, ((1, 0), ((0, 0, 1),)))
((1, 0), ())

>>> from sungbyturns.editing import replace_verse
>>> book = ((("la", 1), (1, "lu")), (("a",), ("b",), ("c",)))
>>> replace_verse(book, 1, 2, ("d",))
((('la', 1), (1, 'lu')), (('a',), ('b',), ('d',)))

>>> from sungbyturns.editing import replace_verse
>>> book = ((("la", 1), (1, "lu")), (("a",), ("b",), ("c",)))
>>> replace_verse(book, 1, 2, (0,))
raises BadBook(refrain=1, verse=2)
"""

SESSION = """
>>> from sungbyturns.session import Session
>>> book = ((('la', 1), ('lo',)), (('a',), ('b', 'c')))
>>> session = Session(book)
>>> session.next_word()
'la'

>>> from sungbyturns.session import Session
>>> book = ((('la', 1), ('lo',)), (('a',), ('b', 'c')))
>>> session = Session(book)
>>> session.skip(4)
'la'

>>> from sungbyturns.session import Session
>>> book = ((('la', 1), ('lo',)), (('a',), ('b', 'c')))
>>> session = Session(book)
>>> session.skip(-1)
raises BadCount

>>> from sungbyturns.session import Session
>>> book = ((('la', 1), ('lo',)), (('a',), ('b', 'c')))
>>> session = Session(book)
>>> session.set_turn(1, 1)
>>> session.skip(2)
'b'

>>> from sungbyturns.session import Session
>>> book = ((('la', 1), ('lo',)), (('a',), ('b', 'c')))
>>> session = Session(book)
>>> session.skip(5)
>>> session.set_turn(1, 0)
raises RefrainBusy

>>> from sungbyturns.session import Session
>>> book = ((('la', 1), ('lo',)), (('a',), ('b', 'c')))
>>> session = Session(book)
>>> session.skip(5)
>>> session.stop_song()
>>> session.current_state()
((1, 0), ())

>>> from sungbyturns.session import Session
>>> book = ((('la', 1), ('lo',)), (('a',), ('b', 'c')))
>>> session = Session(book)
>>> session.replace_verse(1, 0, ('x', 'y'))
>>> session.skip(3)
'y'

>>> from sungbyturns.session import Session
>>> book = ((('la', 1), ('lo',)), (('a',), ('b', 'c')))
>>> session = Session(book)
>>> session.replace_verse(1, 0, (1,))
raises BadBook(refrain=1, verse=0)

>>> from sungbyturns.session import Session
>>> book = ((('la', 1), ('lo',)), (('a',), ('b', 'c')))
>>> session = Session(book)
>>> session.create_branch('b')
>>> session.current_branch()
'b'

>>> from sungbyturns.session import Session
>>> book = ((('la', 1), ('lo',)), (('a',), ('b', 'c')))
>>> session = Session(book)
>>> session.create_branch('main')
raises BadBranch(name='main')

>>> from sungbyturns.session import Session
>>> book = ((('la', 1), ('lo',)), (('a',), ('b', 'c')))
>>> session = Session(book)
>>> session.switch_branch('c')
raises NoBranch(name='c')

>>> from sungbyturns.session import Session
>>> book = ((('la', 1), ('lo',)), (('a',), ('b', 'c')))
>>> session = Session(book)
>>> session.delete_branch('main')
raises BadBranch(name='main')

>>> from sungbyturns.session import Session
>>> book = ((('la', 1), ('lo',)), (('a',), ('b', 'c')))
>>> session = Session(book)
>>> session.skip(4)
>>> session.undo()
>>> session.word_count()
0

>>> from sungbyturns.session import Session
>>> book = ((('la', 1), ('lo',)), (('a',), ('b', 'c')))
>>> session = Session(book)
>>> session.undo()
False

>>> from sungbyturns.session import Session
>>> book = ((('la', 1), ('lo',)), (('a',), ('b', 'c')))
>>> session = Session(book)
>>> session.apply([('skip', 3), ('next_word',)])
['lo', 'la']

>>> from sungbyturns.session import Session
>>> book = ((('la', 1), ('lo',)), (('a',), ('b', 'c')))
>>> session = Session(book)
>>> session.apply([('skip', 3), ('fly',)])
raises BadOperation(index=1)

>>> from sungbyturns.session import Session
>>> book = ((('la', 1), ('lo',)), (('a',), ('b', 'c')))
>>> session = Session(book)
>>> session.skip(4)
>>> session.undo()
>>> session.history()
[('skip', 4), ('undo',)]

>>> from sungbyturns.session import Session
>>> book = ((('la', 1), ('lo',)), (('a',), ('b', 'c')))
>>> session = Session(book)
>>> session.create_branch('b')
>>> session.branches()
['b', 'main']

>>> from sungbyturns.session import Session
>>> book = ((('la', 1), ('lo',)), (('a',), ('b', 'c')))
>>> session = Session(book)
>>> session.skip(4)
>>> [session.current_state(), session.word_count()]
[((1, 1), ((0, 0, 1),)), 4]

>>> from sungbyturns.session import Session
>>> book = ((('la', 1), ('lo',)), (('a',), ('b', 'c')))
>>> session = Session(book)
>>> session.create_branch('b')
>>> session.next_word()
>>> session.difference_from('main')
1

>>> from sungbyturns.session import replay
>>> book = ((('la', 1), ('lo',)), (('a',), ('b', 'c')))
>>> replay(book, [('skip', 3)]).word_count()
3

>>> from sungbyturns.session import replay
>>> book = ((('la', 1), ('lo',)), (('a',), ('b', 'c')))
>>> replay(book, [('skip', 3), ('skip', -1)])
raises BadOperation(index=1)
"""

COMPILER = """
>>> from sungbyturns.compiler import compile_source
>>> compile_source('Song = la R(#2) / lo; R(#n) = #n*a / b;')
((('la', 1), ('lo',)), (('a', 'a'), ('b',)))

>>> from sungbyturns.compiler import compile_source
>>> compile_source('Song = la )')
raises BadSource(row=0, column=10)

>>> from sungbyturns.compiler import compile_source
>>> compile_source('Song = R;')
raises BadProgram(reason='undefined', row=0, column=7)
"""

PRINTER = r"""
>>> from sungbyturns.printer import to_source
>>> book = ((('la', 1), ('lo',)), (('a',), ('b', 'c')))
>>> to_source(book)
'A = la B / lo;\nB = a / b c;'
"""

PLAIN_TEXT = r"""
>>> from sungbyturns.plain_text import format_book
>>> book = ((('la', 1), ('lo',)), (('a',), ('b', 'c')))
>>> format_book(book)
'la 1 / lo\na / b c'

>>> from sungbyturns.plain_text import parse_book
>>> parse_book('la 1\na')
((('la', 1),), (('a',),))

>>> from sungbyturns.plain_text import parse_book
>>> parse_book('la 1\n/ a')
raises BadText(row=1)

>>> from sungbyturns.plain_text import parse_book
>>> parse_book('la 1')
raises BadBook(refrain=0, verse=0)

>>> from sungbyturns.plain_text import format_state
>>> format_state(((1, 0), ((0, 0, 1), (1, 1, 1))))
'turns 1 0\npath 0.0.1 1.1.1'

>>> from sungbyturns.plain_text import parse_state
>>> parse_state('turns 1 0\npath')
((1, 0), ())

>>> from sungbyturns.plain_text import parse_state
>>> parse_state('turns 1 x\npath')
raises BadText(row=0)
"""

BINARY = """
>>> from sungbyturns.binary import pack_bytes
>>> pack_bytes([66, 67])
b'BC'

>>> from sungbyturns.binary import pack_bytes
>>> pack_bytes([256])
raises BadCount

>>> from sungbyturns.binary import pack_bytes, unpack_bytes
>>> unpack_bytes(pack_bytes([66, 67]))
[66, 67]

>>> from sungbyturns.binary import encode_book, unpack_bytes
>>> unpack_bytes(encode_book(((('a',),),)))
[66, 1, 1, 1, 1, 97, 167]

>>> from sungbyturns.binary import decode_book, pack_bytes
>>> decode_book(pack_bytes([66, 1, 1, 1, 1, 97, 167]))
((('a',),),)

>>> from sungbyturns.binary import decode_book, pack_bytes
>>> decode_book(pack_bytes([66, 1, 1, 1, 1, 96, 166]))
raises BadData(offset=5)

>>> from sungbyturns.binary import encode_state, unpack_bytes
>>> unpack_bytes(encode_state(((('a', 'b'),),), ((0,), ((0, 0, 1),))))
[83, 1, 0, 1, 0, 0, 1, 86]

>>> from sungbyturns.binary import decode_state, pack_bytes
>>> decode_state(((('a', 'b'),),), pack_bytes([83, 1, 0, 0, 84]))
((0,), ())

>>> from sungbyturns.binary import decode_state, pack_bytes
>>> decode_state(((('a', 'b'),),), pack_bytes([83, 1, 1, 0, 85]))
raises BadState
"""

JOURNAL = """
>>> from sungbyturns.binary import unpack_bytes
>>> from sungbyturns.journal import encode_operation
>>> unpack_bytes(encode_operation(('skip', 300)))
[0, 3, 107, 172, 2, 33]

>>> from sungbyturns.journal import encode_operation
>>> encode_operation(('skip', -1))
raises BadOperation(index=0)

>>> from sungbyturns.binary import unpack_bytes
>>> from sungbyturns.journal import encode_journal
>>> unpack_bytes(encode_journal(((('a',),),), [('undo',)]))
[66, 1, 1, 1, 1, 97, 167, 0, 1, 117, 118]

>>> from sungbyturns.binary import pack_bytes
>>> from sungbyturns.journal import record_ends
>>> record_ends(pack_bytes([66, 1, 1, 1, 1, 97, 167, 0, 1, 117, 118, 0]))
[7, 11]

>>> from sungbyturns.binary import pack_bytes
>>> from sungbyturns.journal import recover
>>> session, rest = recover(pack_bytes([66, 1, 1, 1, 1, 97, 167, 0, 1, 110, 111, 0, 1]))
>>> [session.word_count(), rest]
[1, 2]

>>> from sungbyturns.binary import pack_bytes
>>> from sungbyturns.journal import recover
>>> recover(pack_bytes([66, 1, 1, 1, 1, 97, 167, 0, 1, 120, 121]))
raises BadRecord(index=0)
"""


class ExamplesTest(unittest.TestCase):
    def test_books(self):
        check_examples(self, BOOKS)

    def test_states(self):
        check_examples(self, STATES)

    def test_positions(self):
        check_examples(self, POSITIONS)

    def test_rewinding(self):
        check_examples(self, REWINDING)

    def test_periods(self):
        check_examples(self, PERIODS)

    def test_certificates(self):
        check_examples(self, CERTIFICATES)

    def test_simplifying(self):
        check_examples(self, SIMPLIFYING)

    def test_inference(self):
        check_examples(self, INFERENCE)

    def test_editing(self):
        check_examples(self, EDITING)

    def test_session(self):
        check_examples(self, SESSION)

    def test_compiler(self):
        check_examples(self, COMPILER)

    def test_printer(self):
        check_examples(self, PRINTER)

    def test_plain_text(self):
        check_examples(self, PLAIN_TEXT)

    def test_binary(self):
        check_examples(self, BINARY)

    def test_journal(self):
        check_examples(self, JOURNAL)


if __name__ == "__main__":
    unittest.main()
