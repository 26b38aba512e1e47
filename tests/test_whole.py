"""Point 1: what holds of every function."""

import copy
import unittest

from sungbyturns.books import reachable_refrains
from sungbyturns.errors import SongError
from sungbyturns.positions import advance, count_words, find_start, find_word, word_at
from sungbyturns.states import initial_state, next_words
from tests.sample_books import NESTED, SONG, thicket

MIDDLE = ((1, 1, 0, 0), ((0, 0, 1), (1, 0, 1)))
FAR = 10 ** 18

CALLS = (
    (reachable_refrains, (NESTED,)),
    (initial_state, (NESTED,)),
    (next_words, (NESTED, MIDDLE, 20)),
    (word_at, (NESTED, MIDDLE, 20)),
    (word_at, (NESTED, MIDDLE, FAR)),
    (advance, (NESTED, MIDDLE, 0)),
    (advance, (NESTED, MIDDLE, 20)),
    (advance, (NESTED, MIDDLE, FAR)),
    (count_words, (NESTED, MIDDLE, 0)),
    (count_words, (NESTED, MIDDLE, 20)),
    (count_words, (NESTED, MIDDLE, FAR)),
    (find_word, (NESTED, MIDDLE, "fa", 20)),
    (find_word, (NESTED, MIDDLE, "never", 20)),
    (find_start, (NESTED, MIDDLE, 0, 20)),
    (find_start, (NESTED, MIDDLE, 3, 20)),
    (find_start, (NESTED, MIDDLE, 2, 20)),
)

WRONG_CALLS = (
    (reachable_refrains, ((((0,),),),)),
    (next_words, (NESTED, MIDDLE, 201)),
    (word_at, (NESTED, MIDDLE, 0)),
    (advance, (NESTED, (MIDDLE[0], ((0, 0, 2), (1, 0, 1))), 1)),
    (count_words, (NESTED, MIDDLE, -1)),
    (find_word, (NESTED, MIDDLE, "fa", 0)),
    (find_start, (NESTED, MIDDLE, 4, 1)),
)


class WholeTest(unittest.TestCase):
    def test_arguments_stay_as_they_are(self):
        for function, arguments in CALLS + WRONG_CALLS:
            before = copy.deepcopy(arguments)
            try:
                function(*arguments)
            except SongError:
                pass
            self.assertEqual(arguments, before)

    def test_equal_calls_give_equal_results(self):
        for function, arguments in CALLS:
            first = function(*arguments)
            second = function(*copy.deepcopy(arguments))
            self.assertEqual(first, second)
            self.assertEqual(repr(first), repr(second))

    def test_errors_change_nothing(self):
        before = [function(*arguments) for function, arguments in CALLS]
        for function, arguments in WRONG_CALLS:
            self.assertRaises(SongError, function, *arguments)
            self.assertRaises(SongError, function, *arguments)
        self.assertEqual([function(*arguments) for function, arguments in CALLS], before)

    def test_returned_lists_and_dicts_may_be_changed(self):
        reachable_refrains(NESTED).clear()
        self.assertEqual(reachable_refrains(NESTED), [0, 1, 3])
        next_words(NESTED, MIDDLE, 3).pop()
        self.assertEqual(len(next_words(NESTED, MIDDLE, 3)), 3)
        expected = count_words(NESTED, MIDDLE, 50)
        words, verses = count_words(NESTED, MIDDLE, 50)
        words.clear()
        for row in verses:
            row.append(7)
        verses.pop()
        self.assertEqual(count_words(NESTED, MIDDLE, 50), expected)
        _, verses = count_words((SONG[1],) * 3, ((0, 0, 0), ()), 1)
        verses[1][0] = 7
        self.assertEqual(verses, [[1, 0, 0], [7, 0, 0], [0, 0, 0]])

    def test_kinds_of_values(self):
        self.assertIs(type(reachable_refrains(NESTED)), list)
        self.check_state(initial_state(NESTED))
        self.check_state(advance(NESTED, MIDDLE, 0))
        self.check_state(advance(NESTED, MIDDLE, 7))
        sung = next_words(NESTED, MIDDLE, 2)
        self.assertIs(type(sung), list)
        for word, path in sung + [word_at(NESTED, MIDDLE, FAR)]:
            self.assertIs(type(word), str)
            self.check_path(path)
        self.assertIs(type(sung[0]), tuple)
        self.assertIs(type(word_at(NESTED, MIDDLE, 1)), tuple)
        counted = count_words(thicket(), initial_state(thicket()), FAR)
        self.assertIs(type(counted), tuple)
        self.assertIs(type(counted[0]), dict)
        self.assertEqual({type(part) for part in [counted[1]] + counted[1]}, {list})
        self.assertEqual({type(starts) for row in counted[1] for starts in row}, {int})

    def check_state(self, state):
        self.assertIs(type(state), tuple)
        turns, path = state
        self.assertIs(type(turns), tuple)
        self.check_path(path)

    def check_path(self, path):
        self.assertIs(type(path), tuple)
        self.assertEqual([len(entry) for entry in path if type(entry) is tuple], [3] * len(path))


if __name__ == "__main__":
    unittest.main()
