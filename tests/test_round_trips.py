"""Points 15 to 23 together: what goes through sources, text, bytes and journals comes out as it went in."""

import random
import unittest

from sungbyturns.binary import decode_book, decode_state, encode_book, encode_state, pack_bytes, unpack_bytes
from sungbyturns.books import reachable_refrains
from sungbyturns.compiler import compile_source
from sungbyturns.errors import BadProgram
from sungbyturns.journal import encode_journal, record_ends, recover
from sungbyturns.plain_text import format_book, format_state, parse_book, parse_state
from sungbyturns.printer import to_source
from sungbyturns.session import Session, replay
from sungbyturns.simplifying import first_difference
from sungbyturns.states import initial_state, next_words
from tests.plain_compiler import write_out
from tests.plain_session import view_of
from tests.sample_books import NESTED, random_book
from tests.sample_operations import random_operation
from tests.sample_programs import random_program

SOURCE = """
Song  = la Call(#3, Echo(hey)) / #2 * Call(#1, ho) lo / [#1 < 2 ? Echo(Last) : never];
Call(#n, X) = #n * X / X [#n > 1 ? Call(#n - 1, X) : Last] X;
Echo(X) = X X / X far X;
Last = a / b / c / d;
"""


def random_books(seed, many):
    """Books of random sources."""
    chance = random.Random(seed)
    books = []
    while len(books) < many:
        try:
            books.append(compile_source(write_out(chance, random_program(chance, 0))))
        except BadProgram:
            pass
    return books


def words_of(book, state):
    return [word for word, _ in next_words(book, state, 200)]


class RoundTripsTest(unittest.TestCase):
    def check_book(self, book):
        self.assertEqual(compile_source(to_source(book)), book)
        self.assertEqual(parse_book(format_book(book)), book)
        self.assertEqual(decode_book(encode_book(book)), book)
        self.assertEqual(decode_book(pack_bytes(unpack_bytes(encode_book(book)))), book)
        way = decode_book(encode_book(parse_book(format_book(compile_source(to_source(book))))))
        self.assertEqual(way, book)
        self.assertEqual(to_source(way), to_source(book))

    def check_state(self, book, state):
        self.assertEqual(parse_state(format_state(state)), state)
        self.assertEqual(decode_state(book, encode_state(book, state)), state)
        self.assertEqual(decode_state(book, encode_state(book, parse_state(format_state(state)))), state)

    def test_from_a_source_to_a_journal_and_back(self):
        book = compile_source(SOURCE)
        self.assertEqual(book, (
            (("la", 1), (2, 2, "lo"), (5,)),
            ((6, 6, 6), (6, 3, 6)),
            (("ho",), ("ho", 7, "ho")),
            ((6, 6), (6, 4, 6)),
            ((6,), (6, 7, 6)),
            ((7, 7), (7, "far", 7)),
            (("hey", "hey"), ("hey", "far", "hey")),
            (("a",), ("b",), ("c",), ("d",)),
        ))
        self.check_book(book)
        operations = [
            ("skip", 10 ** 18), ("create_branch", "loud"), ("stop_song",), ("replace_verse", 0, 0, ("la", "la", 1)),
            ("skip", 77), ("switch_branch", "main"), ("next_word",), ("undo",), ("undo",), ("next_word",),
        ]
        session = replay(book, operations)
        data = encode_journal(parse_book(format_book(book)), session.history())
        again, rest = recover(pack_bytes(unpack_bytes(data) + [0, 9]))
        self.assertEqual((view_of(again), rest), (view_of(session), 2))
        self.assertEqual(encode_journal(decode_book(data[:record_ends(data)[0]]), again.history()), data)
        for name in session.branches():
            session.switch_branch(name)
            self.check_book(session.current_book())
            self.check_state(session.current_book(), session.current_state())

    def test_random_sources_and_sessions(self):
        chance = random.Random(2023)
        for book in random_books(2024, 120):
            self.check_book(book)
            session = Session(book)
            for _ in range(12):
                operation = random_operation(chance, session.current_book(), session.branches())
                try:
                    session.apply([operation])
                except ValueError:
                    continue
                self.check_state(session.current_book(), session.current_state())
            again, rest = recover(encode_journal(book, session.history()))
            self.assertEqual((view_of(again), rest), (view_of(session), 0))
            self.assertEqual(view_of(replay(book, session.history())), view_of(session))
            for name in session.branches():
                self.assertEqual(again.difference_from(name), session.difference_from(name))

    def test_verses_replaced_in_sessions_and_in_sources(self):
        chance = random.Random(2025)
        for book in random_books(2026, 150) + [NESTED] + [random_book(chance) for _ in range(100)]:
            refrain = chance.choice(reachable_refrains(book))
            verse = chance.randrange(len(book[refrain]))
            session = Session(book)
            session.replace_verse(refrain, verse, ["new", "song"])
            source = self.with_verse(to_source(book), reachable_refrains(book).index(refrain), verse, "new song")
            written = compile_source(source)
            self.assertEqual(written, compile_source(to_source(session.current_book())))
            self.assertIsNone(first_difference(
                written, initial_state(written), session.current_book(), session.current_state(), 5000,
            ))
            words = words_of(session.current_book(), session.current_state())
            self.assertEqual(words_of(written, initial_state(written)), words)

    def with_verse(self, source, line, verse, text):
        """A printed source in which one verse of a line is written anew; refrains that this makes silent stay."""
        lines = source.split("\n")
        name, verses = lines[line][:-1].split(" = ")
        verses = verses.split(" / ")
        verses[verse] = text
        lines[line] = f"{name} = {' / '.join(verses)};"
        return "\n".join(lines)

    def test_states_go_on_after_a_round_trip(self):
        chance = random.Random(2027)
        for book in random_books(2028, 60):
            session = Session(book)
            session.skip(chance.randrange(10 ** 18))
            state = decode_state(book, encode_state(book, parse_state(format_state(session.current_state()))))
            self.assertEqual(words_of(decode_book(encode_book(book)), state), [session.next_word() for _ in range(200)])

    def test_equal_calls_give_equal_results(self):
        book = compile_source(SOURCE)
        state = ((0,) * len(book), ())
        data = encode_journal(book, [("next_word",)])
        for call in (
            lambda: compile_source(SOURCE), lambda: to_source(book), lambda: record_ends(data),
            lambda: view_of(recover(data)[0]),
            lambda: format_book(book), lambda: parse_book(format_book(book)),
            lambda: format_state(state), lambda: parse_state(format_state(state)),
            lambda: encode_book(book), lambda: decode_book(encode_book(book)),
            lambda: encode_state(book, state), lambda: decode_state(book, encode_state(book, state)),
        ):
            self.assertEqual(repr(call()), repr(call()))


if __name__ == "__main__":
    unittest.main()
