"""Points 3 to 5: turns, states, and the words that follow a state."""

import random
import unittest

from sungbyturns.errors import BadBook, BadCount, BadState, BadTurns
from sungbyturns.periods import advance_songs
from sungbyturns.positions import advance, count_words, find_start, find_word, word_at
from sungbyturns.rewinding import rewind
from sungbyturns.simplifying import first_difference, simplify
from sungbyturns.states import check_turns, initial_state, next_words
from tests.plain_singer import Record
from tests.sample_books import NESTED, SONG, random_book, random_state, thicket, tower

BAD_BOOK = ((("a", 1),),)


class InitialStateTest(unittest.TestCase):
    def test_initial_state(self):
        self.assertEqual(initial_state(((("a",),),)), ((0,), ()))
        self.assertEqual(initial_state(NESTED), ((0, 0, 0, 0), ()))
        self.assertEqual(initial_state(tower()), ((0,) * 60, ()))

    def test_bad_book(self):
        with self.assertRaises(BadBook) as caught:
            initial_state(BAD_BOOK)
        self.assertEqual((caught.exception.refrain, caught.exception.verse), (0, 0))


class TurnsTest(unittest.TestCase):
    def test_valid_turns(self):
        for turns in ((0, 0, 0, 0), (2, 2, 0, 1)):
            self.assertIsNone(check_turns(NESTED, turns))

    def test_bad_turns(self):
        for turns in ((), (0, 0, 0), (0, 0, 0, 0, 0), (3, 0, 0, 0), (0, 0, 1, 0), (0, -1, 0, 0), (0, 0, 0, 2)):
            with self.subTest(turns=turns), self.assertRaises(BadTurns):
                check_turns(NESTED, turns)
            self.assertRaises(BadTurns, advance_songs, NESTED, turns, 1)
            self.assertRaises(BadTurns, simplify, NESTED, turns)


# Of the book NESTED, whose verses are
# 0: do 1 re / 1 3 1 / mi    1: 3 fa / sol 3 3 / fa    2: never 3    3: x / y z
BAD_STATES = {
    "no turns": ((), ()),
    "a turn is missing": ((0, 0, 0), ()),
    "a turn too many": ((0, 0, 0, 0, 0), ()),
    "a turn beyond the last verse": ((3, 0, 0, 0), ()),
    "a turn of an unreachable refrain beyond its verse": ((0, 0, 1, 0), ()),
    "a turn below 0": ((0, 0, 0, -1), ()),
    "bad turns beside a path": ((1, 3, 0, 0), ((0, 0, 1),)),
    "a path that does not begin with refrain 0": ((0, 2, 0, 0), ((1, 1, 1),)),
    "a path through a refrain that does not exist": ((0, 0, 0, 0), ((4, 0, 1),)),
    "a refrain below 0": ((0, 0, 0, 1), ((-4, 0, 1),)),
    "a verse that does not exist": ((1, 0, 0, 0), ((0, 3, 1),)),
    "a verse below 0": ((1, 0, 0, 0), ((0, -3, 1),)),
    "a later verse below 0": ((2, 0, 0, 0), ((0, 1, 1), (3, -1, 1))),
    "an item that does not exist": ((1, 0, 0, 0), ((0, 0, 3),)),
    "an item below 0": ((1, 0, 0, 0), ((0, 0, -1),)),
    "item 0 is sung next": ((1, 0, 0, 0), ((0, 0, 0),)),
    "item 0 of a later entry is sung next": ((1, 1, 0, 0), ((0, 0, 1), (1, 0, 0))),
    "an entry below a word": ((1, 1, 0, 0), ((0, 0, 2), (1, 0, 1))),
    "an entry of another refrain than the item": ((1, 0, 0, 0), ((0, 0, 1), (3, 1, 1))),
    "an entry of an earlier refrain": ((2, 0, 0, 0), ((0, 1, 1), (1, 2, 1))),
    "a refrain twice": ((1, 0, 0, 0), ((0, 0, 1), (0, 0, 1))),
    "a later verse that does not exist": ((1, 1, 0, 0), ((0, 0, 1), (1, 3, 1))),
    "a later item that does not exist": ((1, 1, 0, 0), ((0, 0, 1), (1, 0, 2))),
    "a middle item that does not exist": ((1, 1, 0, 0), ((0, 0, 3), (1, 0, 1))),
    "a turn that is the verse itself": ((0, 0, 0, 0), ((0, 0, 1),)),
    "a turn two verses later": ((2, 0, 0, 0), ((0, 0, 1),)),
    "a turn that does not begin again": ((2, 2, 0, 0), ((0, 0, 1), (1, 2, 0))),
    "a later turn that does not fit": ((1, 0, 0, 0), ((0, 0, 1), (1, 0, 1))),
    "a first turn that does not fit": ((0, 1, 0, 0), ((0, 0, 1), (1, 0, 1))),
}

GOOD_STATES = (
    ((0, 0, 0, 0), ()),
    ((2, 2, 0, 1), ()),
    ((1, 0, 0, 0), ((0, 0, 1),)),
    ((1, 2, 0, 1), ((0, 0, 2),)),
    ((2, 0, 0, 0), ((0, 1, 2),)),
    ((1, 1, 0, 0), ((0, 0, 1), (1, 0, 1))),
    ((2, 2, 0, 0), ((0, 1, 0), (1, 1, 2))),
    ((2, 0, 0, 0), ((0, 1, 1), (3, 1, 1))),
    ((2, 1, 0, 0), ((0, 1, 2), (1, 0, 0), (3, 1, 1))),
)


class StateTest(unittest.TestCase):
    def test_good_states(self):
        for state in GOOD_STATES:
            with self.subTest(state=state):
                self.assertEqual(next_words(NESTED, state, 60), Record(NESTED, state, 60).words)
                self.assertEqual(advance(NESTED, state, 0), state)
                self.assertEqual(rewind(NESTED, state, 0), state)
                self.assertEqual(advance(NESTED, rewind(NESTED, state, 60), 60), state)

    def test_bad_states(self):
        for what, state in BAD_STATES.items():
            with self.subTest(what):
                for call in (next_words, word_at, advance, count_words, rewind):
                    for count in (0, 1, -1, 10 ** 18 + 1):
                        self.assertRaises(BadState, call, NESTED, state, count)
                self.assertRaises(BadState, find_word, NESTED, state, "x", 1)
                self.assertRaises(BadState, find_start, NESTED, state, 1, 1)
                for count in (0, 1, -1, 5001):
                    good = initial_state(NESTED)
                    self.assertRaises(BadState, first_difference, NESTED, state, NESTED, good, count)
                    self.assertRaises(BadState, first_difference, NESTED, good, NESTED, state, count)

    def test_deepest_path(self):
        book = tower()[:-1] + ((("a", "b"),),)
        path = tuple((number, 0, number % 6) for number in range(59)) + ((59, 0, 1),)
        state = ((0,) * 60, path)
        self.assertEqual(next_words(book, state, 1), [("b", path)])
        self.assertRaises(BadState, next_words, book, ((0,) * 60, path[:-1] + ((59, 0, 0),)), 1)

    def test_single_verse_is_its_own_next_one(self):
        book = ((("a", "b"),),)
        self.assertEqual(next_words(book, ((0,), ((0, 0, 1),)), 2), [("b", ((0, 0, 1),)), ("a", ((0, 0, 0),))])


class NextWordsTest(unittest.TestCase):
    def test_counts(self):
        for state in (initial_state(SONG), ((1, 2), ((0, 0, 1),)), ((0, 0), ((0, 1, 1),))):
            record = Record(SONG, state, 200)
            for count in (0, 1, 2, 199, 200):
                with self.subTest(state=state, count=count):
                    self.assertEqual(next_words(SONG, state, count), record.words[:count])

    def test_bad_counts(self):
        for state in (initial_state(SONG), ((1, 2), ((0, 0, 1),))):
            for count in (-1, 201, -10 ** 18, 10 ** 18):
                with self.subTest(state=state, count=count):
                    self.assertRaises(BadCount, next_words, SONG, state, count)

    def test_rotation_from_any_place(self):
        # Refrain 3 goes on with its other verse, wherever it was sung last.
        words = [word for word, _ in next_words(NESTED, initial_state(NESTED), 15)]
        self.assertEqual(words, ["do", "x", "fa", "re", "sol", "y", "z", "x", "y", "z", "fa", "mi", "do", "x", "fa"])

    def test_path_in_the_middle(self):
        state = ((1, 1, 0, 0), ((0, 0, 1), (1, 0, 1)))
        self.assertEqual(
            next_words(NESTED, state, 4),
            [
                ("fa", ((0, 0, 1), (1, 0, 1))),
                ("re", ((0, 0, 2),)),
                ("sol", ((0, 1, 0), (1, 1, 0))),
                ("x", ((0, 1, 0), (1, 1, 1), (3, 0, 0))),
            ],
        )

    def test_random_books(self):
        chance = random.Random(5)
        for _ in range(150):
            book = random_book(chance)
            state = random_state(chance, book)
            with self.subTest(book=book, state=state):
                self.assertEqual(next_words(book, state, 40), Record(book, state, 40).words)

    def test_large_books(self):
        for book in (tower(), thicket()):
            state = initial_state(book)
            self.assertEqual(next_words(book, state, 200), Record(book, state, 200).words)

    def test_order_of_errors(self):
        bad_state = ((0,), ((0, 0, 0),))
        self.assertRaises(BadBook, next_words, BAD_BOOK, bad_state, -1)
        self.assertRaises(BadBook, next_words, BAD_BOOK, ((0,), ()), 201)
        self.assertRaises(BadState, next_words, SONG, bad_state, -1)
        self.assertRaises(BadState, next_words, SONG, bad_state, 201)


if __name__ == "__main__":
    unittest.main()
