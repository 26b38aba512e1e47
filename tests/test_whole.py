"""Point 1: what holds of every function."""

import copy
import unittest

from sungbyturns.books import reachable_refrains
from sungbyturns.certificates import check_certificate, count_by_certificate, make_certificate, max_deviation
from sungbyturns.errors import SongError
from sungbyturns.periods import advance_songs, average_length, frequencies, period
from sungbyturns.positions import advance, count_words, find_start, find_word, word_at
from sungbyturns.rewinding import rewind
from sungbyturns.simplifying import first_difference, simplify
from sungbyturns.states import initial_state, next_words
from tests.sample_books import NESTED, SONG, thicket

MIDDLE = ((1, 1, 0, 0), ((0, 0, 1), (1, 0, 1)))
TURNS = (2, 1, 0, 1)
CERTIFICATE = make_certificate(NESTED, "x")
# Well formed, but of another word than the calls below name.
OTHER_CERTIFICATE = make_certificate(NESTED, "fa")
FAR = 10 ** 18

CALLS = (
    (reachable_refrains, (NESTED,)),
    (initial_state, (NESTED,)),
    (next_words, (NESTED, MIDDLE, 20)),
    (word_at, (NESTED, MIDDLE, 20)),
    (word_at, (NESTED, MIDDLE, FAR)),
    (advance, (NESTED, MIDDLE, 0)),
    (advance, (NESTED, MIDDLE, 20)),
    (advance, (NESTED, MIDDLE, FAR)),
    (count_words, (NESTED, MIDDLE, 0)),
    (count_words, (NESTED, MIDDLE, 20)),
    (count_words, (NESTED, MIDDLE, FAR)),
    (find_word, (NESTED, MIDDLE, "fa", 20)),
    (find_word, (NESTED, MIDDLE, "never", 20)),
    (find_start, (NESTED, MIDDLE, 0, 20)),
    (find_start, (NESTED, MIDDLE, 3, 20)),
    (find_start, (NESTED, MIDDLE, 2, 20)),
    (rewind, (NESTED, MIDDLE, 0)),
    (rewind, (NESTED, MIDDLE, 20)),
    (rewind, (NESTED, MIDDLE, FAR)),
    (advance_songs, (NESTED, TURNS, 0)),
    (advance_songs, (NESTED, TURNS, FAR)),
    (period, (NESTED,)),
    (average_length, (NESTED,)),
    (frequencies, (NESTED,)),
    (make_certificate, (NESTED, "x")),
    (check_certificate, (NESTED, "x", CERTIFICATE)),
    (check_certificate, (NESTED, "x", OTHER_CERTIFICATE)),
    (count_by_certificate, (NESTED, "x", CERTIFICATE, TURNS, (1, 1, 0, 0), FAR)),
    (max_deviation, (NESTED, "x")),
    (simplify, (NESTED, TURNS)),
    (first_difference, (NESTED, MIDDLE, SONG, ((0, 0), ()), 5000)),
    (first_difference, (NESTED, MIDDLE, NESTED, MIDDLE, 100)),
)

WRONG_CALLS = (
    (reachable_refrains, ((((0,),),),)),
    (next_words, (NESTED, MIDDLE, 201)),
    (word_at, (NESTED, MIDDLE, 0)),
    (advance, (NESTED, (MIDDLE[0], ((0, 0, 2), (1, 0, 1))), 1)),
    (count_words, (NESTED, MIDDLE, -1)),
    (find_word, (NESTED, MIDDLE, "fa", 0)),
    (find_start, (NESTED, MIDDLE, 4, 1)),
    (rewind, (NESTED, MIDDLE, FAR + 1)),
    (advance_songs, (NESTED, TURNS, -1)),
    (period, ((((0,),),),)),
    (average_length, ((((0,),),),)),
    (frequencies, ((((0,),),),)),
    (make_certificate, ((((0,),),), "x")),
    (check_certificate, (NESTED, "x", [list(CERTIFICATE[0]), list(CERTIFICATE[1])])),
    (count_by_certificate, (NESTED, "x", OTHER_CERTIFICATE, TURNS, TURNS, 1)),
    (max_deviation, ((((0,),),), "x")),
    (simplify, (NESTED, TURNS + (0,))),
    (first_difference, (NESTED, MIDDLE, SONG, ((0, 0), ()), 5001)),
)


class WholeTest(unittest.TestCase):
    def test_arguments_stay_as_they_are(self):
        for function, arguments in CALLS + WRONG_CALLS:
            before = copy.deepcopy(arguments)
            try:
                function(*arguments)
            except SongError:
                pass
            self.assertEqual(arguments, before)

    def test_equal_calls_give_equal_results(self):
        for function, arguments in CALLS:
            first = function(*arguments)
            second = function(*copy.deepcopy(arguments))
            self.assertEqual(first, second)
            self.assertEqual(repr(first), repr(second))

    def test_errors_change_nothing(self):
        before = [function(*arguments) for function, arguments in CALLS]
        for function, arguments in WRONG_CALLS:
            self.assertRaises(SongError, function, *arguments)
            self.assertRaises(SongError, function, *arguments)
        self.assertEqual([function(*arguments) for function, arguments in CALLS], before)

    def test_returned_lists_and_dicts_may_be_changed(self):
        reachable_refrains(NESTED).clear()
        self.assertEqual(reachable_refrains(NESTED), [0, 1, 3])
        next_words(NESTED, MIDDLE, 3).pop()
        self.assertEqual(len(next_words(NESTED, MIDDLE, 3)), 3)
        expected = count_words(NESTED, MIDDLE, 50)
        words, verses = count_words(NESTED, MIDDLE, 50)
        words.clear()
        for row in verses:
            row.append(7)
        verses.pop()
        self.assertEqual(count_words(NESTED, MIDDLE, 50), expected)
        shares = frequencies(NESTED)
        expected = dict(shares)
        shares.clear()
        self.assertEqual(frequencies(NESTED), expected)
        _, verses = count_words((SONG[1],) * 3, ((0, 0, 0), ()), 1)
        verses[1][0] = 7
        self.assertEqual(verses, [[1, 0, 0], [7, 0, 0], [0, 0, 0]])

    def test_kinds_of_values(self):
        self.assertIs(type(reachable_refrains(NESTED)), list)
        self.check_state(initial_state(NESTED))
        self.check_state(advance(NESTED, MIDDLE, 0))
        self.check_state(advance(NESTED, MIDDLE, 7))
        sung = next_words(NESTED, MIDDLE, 2)
        self.assertIs(type(sung), list)
        for word, path in sung + [word_at(NESTED, MIDDLE, FAR)]:
            self.assertIs(type(word), str)
            self.check_path(path)
        self.assertIs(type(sung[0]), tuple)
        self.assertIs(type(word_at(NESTED, MIDDLE, 1)), tuple)
        counted = count_words(thicket(), initial_state(thicket()), FAR)
        self.assertIs(type(counted), tuple)
        self.assertIs(type(counted[0]), dict)
        self.assertEqual({type(part) for part in [counted[1]] + counted[1]}, {list})
        self.assertEqual({type(starts) for row in counted[1] for starts in row}, {int})

    def test_kinds_of_values_of_whole_songs(self):
        self.check_state(rewind(NESTED, MIDDLE, 0))
        self.check_state(rewind(NESTED, MIDDLE, 7))
        for values in (period(thicket()), average_length(thicket()), max_deviation(thicket(), "a")):
            self.check_integers(values, 2)
        songs = advance_songs(NESTED, TURNS, FAR)
        self.assertIs(type(songs), tuple)
        self.check_integers(songs[1], 4)
        shares = frequencies(NESTED)
        self.assertIs(type(shares), dict)
        for share in shares.values():
            self.check_integers(share, 2)
        self.check_integers(check_certificate(NESTED, "x", OTHER_CERTIFICATE), 2)
        self.check_integers(count_by_certificate(NESTED, "x", CERTIFICATE, TURNS, TURNS, FAR), 2)
        simple = simplify(NESTED, TURNS)
        self.assertIs(type(simple), tuple)
        book, turns = simple
        self.check_integers(turns, 3)
        self.assertEqual({type(verses) for verses in (book,) + book}, {tuple})
        self.assertEqual({type(verse) for verses in book for verse in verses}, {tuple})
        self.assertIs(type(first_difference(NESTED, MIDDLE, SONG, ((0, 0), ()), 5000)), int)

    def check_integers(self, values, many):
        self.assertIs(type(values), tuple)
        self.assertEqual([type(value) for value in values], [int] * many)

    def check_state(self, state):
        self.assertIs(type(state), tuple)
        turns, path = state
        self.assertIs(type(turns), tuple)
        self.check_path(path)

    def check_path(self, path):
        self.assertIs(type(path), tuple)
        self.assertEqual([len(entry) for entry in path if type(entry) is tuple], [3] * len(path))


if __name__ == "__main__":
    unittest.main()
