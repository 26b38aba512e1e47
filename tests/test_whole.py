"""Point 1: what holds of every function."""

import copy
import unittest

from sungbyturns.binary import decode_book, decode_state, encode_book, encode_state, pack_bytes, unpack_bytes
from sungbyturns.books import reachable_refrains
from sungbyturns.certificates import check_certificate, count_by_certificate, make_certificate, max_deviation
from sungbyturns.compiler import compile_source
from sungbyturns.editing import replace_verse, set_turn, stop_song
from sungbyturns.errors import SongError
from sungbyturns.inference import infer_turns
from sungbyturns.journal import encode_journal, encode_operation, record_ends, recover
from sungbyturns.periods import advance_songs, average_length, frequencies, period
from sungbyturns.plain_text import format_book, format_state, parse_book, parse_state
from sungbyturns.positions import advance, count_words, find_start, find_word, word_at
from sungbyturns.printer import to_source
from sungbyturns.rewinding import rewind
from sungbyturns.session import Session, replay
from sungbyturns.simplifying import first_difference, simplify
from sungbyturns.states import initial_state, next_words
from tests.plain_session import view_of
from tests.sample_books import NESTED, SONG, thicket

MIDDLE = ((1, 1, 0, 0), ((0, 0, 1), (1, 0, 1)))
TURNS = (2, 1, 0, 1)
CERTIFICATE = make_certificate(NESTED, "x")
# Well formed, but of another word than the calls below name.
OTHER_CERTIFICATE = make_certificate(NESTED, "fa")
FAR = 10 ** 18
OPERATIONS = (
    ("skip", FAR), ("create_branch", "b"), ("stop_song",), ("replace_verse", 1, 1, ["x", 3]), ("set_turn", 3, 1),
    ("undo",), ("next_word",), ("switch_branch", "main"), ("skip", 0), ("delete_branch", "b"),
)
SOURCE = "A = R(#2, x) B / [#1 < 2 ? B : ]; R(#n, X) = #n * X; B = b;"


def view_of_replay(book, operations):
    return view_of(replay(book, operations))


def view_of_applied(book, operations):
    session = Session(book)
    return session.apply(operations), view_of(session), session.difference_from("main")


def view_of_recovered(data):
    session, rest = recover(data)
    return view_of(session), rest


BOOK_DATA = encode_book(NESTED)
STATE_DATA = encode_state(NESTED, MIDDLE)
JOURNAL_DATA = encode_journal(NESTED, OPERATIONS)

CALLS = (
    (reachable_refrains, (NESTED,)),
    (initial_state, (NESTED,)),
    (next_words, (NESTED, MIDDLE, 20)),
    (word_at, (NESTED, MIDDLE, 20)),
    (word_at, (NESTED, MIDDLE, FAR)),
    (advance, (NESTED, MIDDLE, 0)),
    (advance, (NESTED, MIDDLE, 20)),
    (advance, (NESTED, MIDDLE, FAR)),
    (count_words, (NESTED, MIDDLE, 0)),
    (count_words, (NESTED, MIDDLE, 20)),
    (count_words, (NESTED, MIDDLE, FAR)),
    (find_word, (NESTED, MIDDLE, "fa", 20)),
    (find_word, (NESTED, MIDDLE, "never", 20)),
    (find_start, (NESTED, MIDDLE, 0, 20)),
    (find_start, (NESTED, MIDDLE, 3, 20)),
    (find_start, (NESTED, MIDDLE, 2, 20)),
    (rewind, (NESTED, MIDDLE, 0)),
    (rewind, (NESTED, MIDDLE, 20)),
    (rewind, (NESTED, MIDDLE, FAR)),
    (advance_songs, (NESTED, TURNS, 0)),
    (advance_songs, (NESTED, TURNS, FAR)),
    (period, (NESTED,)),
    (average_length, (NESTED,)),
    (frequencies, (NESTED,)),
    (make_certificate, (NESTED, "x")),
    (check_certificate, (NESTED, "x", CERTIFICATE)),
    (check_certificate, (NESTED, "x", OTHER_CERTIFICATE)),
    (count_by_certificate, (NESTED, "x", CERTIFICATE, TURNS, (1, 1, 0, 0), FAR)),
    (max_deviation, (NESTED, "x")),
    (simplify, (NESTED, TURNS)),
    (first_difference, (NESTED, MIDDLE, SONG, ((0, 0), ()), 5000)),
    (first_difference, (NESTED, MIDDLE, NESTED, MIDDLE, 100)),
    (infer_turns, (NESTED, ["do", "x"])),
    (infer_turns, (NESTED, [])),
    (infer_turns, (NESTED, ["never"])),
    (set_turn, (NESTED, MIDDLE, 3, 1)),
    (stop_song, (NESTED, MIDDLE)),
    (replace_verse, (NESTED, 1, 0, ("x", 3))),
    (view_of_replay, (NESTED, list(OPERATIONS))),
    (view_of_applied, (NESTED, OPERATIONS)),
    (compile_source, (SOURCE,)),
    (to_source, (NESTED,)),
    (format_book, (NESTED,)),
    (parse_book, ("a 1 / 1 b\nc",)),
    (format_state, (MIDDLE,)),
    (parse_state, ("turns 0 1\npath 0.0.1",)),
    (pack_bytes, ([1, 2, 255],)),
    (unpack_bytes, (BOOK_DATA,)),
    (encode_book, (NESTED,)),
    (decode_book, (BOOK_DATA,)),
    (encode_state, (NESTED, MIDDLE)),
    (decode_state, (NESTED, STATE_DATA)),
    (encode_operation, (("replace_verse", 1, 1, ["x", 3]),)),
    (encode_journal, (NESTED, list(OPERATIONS))),
    (record_ends, (JOURNAL_DATA,)),
    (view_of_recovered, (JOURNAL_DATA,)),
    (view_of_recovered, (JOURNAL_DATA[:-1],)),
)

WRONG_CALLS = (
    (reachable_refrains, ((((0,),),),)),
    (next_words, (NESTED, MIDDLE, 201)),
    (word_at, (NESTED, MIDDLE, 0)),
    (advance, (NESTED, (MIDDLE[0], ((0, 0, 2), (1, 0, 1))), 1)),
    (count_words, (NESTED, MIDDLE, -1)),
    (find_word, (NESTED, MIDDLE, "fa", 0)),
    (find_start, (NESTED, MIDDLE, 4, 1)),
    (rewind, (NESTED, MIDDLE, FAR + 1)),
    (advance_songs, (NESTED, TURNS, -1)),
    (period, ((((0,),),),)),
    (average_length, ((((0,),),),)),
    (frequencies, ((((0,),),),)),
    (make_certificate, ((((0,),),), "x")),
    (check_certificate, (NESTED, "x", [list(CERTIFICATE[0]), list(CERTIFICATE[1])])),
    (count_by_certificate, (NESTED, "x", OTHER_CERTIFICATE, TURNS, TURNS, 1)),
    (max_deviation, ((((0,),),), "x")),
    (simplify, (NESTED, TURNS + (0,))),
    (first_difference, (NESTED, MIDDLE, SONG, ((0, 0), ()), 5001)),
    (infer_turns, (NESTED, ["do"] * 61)),
    (infer_turns, (thicket(), ["r", "r", "a", "q"])),
    (set_turn, (NESTED, MIDDLE, 0, 0)),
    (stop_song, (NESTED, (MIDDLE[0], ((0, 0, 2), (1, 0, 1))))),
    (replace_verse, (NESTED, 1, 0, ("x", 1))),
    (view_of_replay, (NESTED, list(OPERATIONS) + [("skip", -1)])),
    (view_of_applied, (NESTED, OPERATIONS + (("skip", -1),))),
    (view_of_applied, (NESTED, OPERATIONS + (("skip",),))),
    (compile_source, (SOURCE + "A",)),
    (compile_source, (SOURCE + "A = a;",)),
    (to_source, ((((0,),),),)),
    (format_book, ((((0,),),),)),
    (parse_book, ("a\n/",)),
    (parse_book, ("a 1",)),
    (parse_state, ("turns 0",)),
    (pack_bytes, ([1, 256],)),
    (encode_book, ((((0,),),),)),
    (decode_book, (BOOK_DATA[:-1],)),
    (encode_state, (NESTED, (MIDDLE[0], ((0, 0, 2), (1, 0, 1))))),
    (decode_state, (NESTED, BOOK_DATA)),
    (encode_operation, (("replace_verse", 1, 1, ["x", 60]),)),
    (encode_journal, (NESTED, list(OPERATIONS) + [("skip", -1)])),
    (record_ends, (BOOK_DATA[1:],)),
    (view_of_recovered, (encode_journal(NESTED, OPERATIONS + (("delete_branch", "main"),)),)),
)


class WholeTest(unittest.TestCase):
    def test_arguments_stay_as_they_are(self):
        for function, arguments in CALLS + WRONG_CALLS:
            before = copy.deepcopy(arguments)
            try:
                function(*arguments)
            except SongError:
                pass
            self.assertEqual(arguments, before)

    def test_equal_calls_give_equal_results(self):
        for function, arguments in CALLS:
            first = function(*arguments)
            second = function(*copy.deepcopy(arguments))
            self.assertEqual(first, second)
            self.assertEqual(repr(first), repr(second))

    def test_errors_change_nothing(self):
        before = [function(*arguments) for function, arguments in CALLS]
        for function, arguments in WRONG_CALLS:
            self.assertRaises(SongError, function, *arguments)
            self.assertRaises(SongError, function, *arguments)
        self.assertEqual([function(*arguments) for function, arguments in CALLS], before)

    def test_returned_lists_and_dicts_may_be_changed(self):
        reachable_refrains(NESTED).clear()
        self.assertEqual(reachable_refrains(NESTED), [0, 1, 3])
        next_words(NESTED, MIDDLE, 3).pop()
        self.assertEqual(len(next_words(NESTED, MIDDLE, 3)), 3)
        expected = count_words(NESTED, MIDDLE, 50)
        words, verses = count_words(NESTED, MIDDLE, 50)
        words.clear()
        for row in verses:
            row.append(7)
        verses.pop()
        self.assertEqual(count_words(NESTED, MIDDLE, 50), expected)
        shares = frequencies(NESTED)
        expected = dict(shares)
        shares.clear()
        self.assertEqual(frequencies(NESTED), expected)
        _, verses = count_words((SONG[1],) * 3, ((0, 0, 0), ()), 1)
        verses[1][0] = 7
        self.assertEqual(verses, [[1, 0, 0], [7, 0, 0], [0, 0, 0]])

    def test_kinds_of_values(self):
        self.assertIs(type(reachable_refrains(NESTED)), list)
        self.check_state(initial_state(NESTED))
        self.check_state(advance(NESTED, MIDDLE, 0))
        self.check_state(advance(NESTED, MIDDLE, 7))
        sung = next_words(NESTED, MIDDLE, 2)
        self.assertIs(type(sung), list)
        for word, path in sung + [word_at(NESTED, MIDDLE, FAR)]:
            self.assertIs(type(word), str)
            self.check_path(path)
        self.assertIs(type(sung[0]), tuple)
        self.assertIs(type(word_at(NESTED, MIDDLE, 1)), tuple)
        counted = count_words(thicket(), initial_state(thicket()), FAR)
        self.assertIs(type(counted), tuple)
        self.assertIs(type(counted[0]), dict)
        self.assertEqual({type(part) for part in [counted[1]] + counted[1]}, {list})
        self.assertEqual({type(starts) for row in counted[1] for starts in row}, {int})

    def test_kinds_of_values_of_whole_songs(self):
        self.check_state(rewind(NESTED, MIDDLE, 0))
        self.check_state(rewind(NESTED, MIDDLE, 7))
        for values in (period(thicket()), average_length(thicket()), max_deviation(thicket(), "a")):
            self.check_integers(values, 2)
        songs = advance_songs(NESTED, TURNS, FAR)
        self.assertIs(type(songs), tuple)
        self.check_integers(songs[1], 4)
        shares = frequencies(NESTED)
        self.assertIs(type(shares), dict)
        for share in shares.values():
            self.check_integers(share, 2)
        self.check_integers(check_certificate(NESTED, "x", OTHER_CERTIFICATE), 2)
        self.check_integers(count_by_certificate(NESTED, "x", CERTIFICATE, TURNS, TURNS, FAR), 2)
        simple = simplify(NESTED, TURNS)
        self.assertIs(type(simple), tuple)
        book, turns = simple
        self.check_integers(turns, 3)
        self.assertEqual({type(verses) for verses in (book,) + book}, {tuple})
        self.assertEqual({type(verse) for verses in book for verse in verses}, {tuple})
        self.assertIs(type(first_difference(NESTED, MIDDLE, SONG, ((0, 0), ()), 5000)), int)

    def test_kinds_of_values_of_other_books(self):
        inferred = infer_turns(SONG, ["c"])
        self.assertIs(type(inferred), tuple)
        self.assertEqual([type(part) for part in inferred], [int, tuple, list])
        self.check_state(set_turn(NESTED, MIDDLE, 3, 1))
        self.check_state(stop_song(NESTED, MIDDLE))
        for book in (replace_verse(NESTED, 1, 0, ("x", 3)), compile_source(SOURCE)):
            self.assertEqual({type(verses) for verses in (book,) + book}, {tuple})
            self.assertEqual({type(verse) for verses in book for verse in verses}, {tuple})

    def test_kinds_of_values_of_texts_and_bytes(self):
        for text in (to_source(NESTED), format_book(NESTED), format_state(MIDDLE)):
            self.assertIs(type(text), str)
        for data in (pack_bytes([]), BOOK_DATA, STATE_DATA, JOURNAL_DATA, encode_operation(("undo",))):
            self.assertIs(type(data), bytes)
        for book in (parse_book(format_book(NESTED)), decode_book(BOOK_DATA)):
            self.assertEqual({type(verses) for verses in (book,) + book}, {tuple})
            self.assertEqual({type(verse) for verses in book for verse in verses}, {tuple})
        self.check_state(parse_state(format_state(MIDDLE)))
        self.check_state(decode_state(NESTED, STATE_DATA))
        self.assertIs(type(record_ends(JOURNAL_DATA)), list)
        self.assertEqual([type(part) for part in recover(JOURNAL_DATA)], [Session, int])

    def test_kinds_of_values_of_sessions(self):
        session = Session(NESTED)
        session.apply(OPERATIONS[:-1])
        self.check_state(session.current_state())
        self.assertIs(type(session.history()), list)
        self.assertEqual({type(told) for told in session.history()}, {tuple})
        self.assertEqual(session.history()[3], ("replace_verse", 1, 1, ("x", 3)))
        self.assertIs(type(session.branches()), list)
        self.assertIs(type(session.word_count()), int)
        self.assertIs(type(session.current_book()), tuple)
        self.assertIs(type(replay(NESTED, session.history())), Session)

    def check_integers(self, values, many):
        self.assertIs(type(values), tuple)
        self.assertEqual([type(value) for value in values], [int] * many)

    def check_state(self, state):
        self.assertIs(type(state), tuple)
        turns, path = state
        self.assertIs(type(turns), tuple)
        self.check_path(path)

    def check_path(self, path):
        self.assertIs(type(path), tuple)
        self.assertEqual([len(entry) for entry in path if type(entry) is tuple], [3] * len(path))


if __name__ == "__main__":
    unittest.main()
