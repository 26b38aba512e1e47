"""Point 14: other turns, stopped songs and other verses."""

import random
import unittest

from sungbyturns.editing import replace_verse, set_turn, stop_song
from sungbyturns.errors import BadBook, BadCount, BadRefrain, BadState, RefrainBusy
from sungbyturns.states import next_words
from tests.plain_singer import Record
from tests.sample_books import NESTED, SONG, random_book, random_state, thicket

BAD_BOOK = ((("a", 1),),)
BAD_STATE = ((0, 0), ((0, 0, 1),))
START = ((0, 0), ())
# Refrains 0 and 1 of NESTED are on the path.
MIDDLE = ((1, 1, 0, 1), ((0, 0, 1), (1, 0, 1)))


class SetTurnTest(unittest.TestCase):
    def test_all_turns(self):
        for refrain, verses in enumerate(NESTED):
            for verse in range(len(verses)):
                turns = [2, 1, 0, 1]
                state = (tuple(turns), ())
                turns[refrain] = verse
                self.assertEqual(set_turn(NESTED, state, refrain, verse), (tuple(turns), ()))
                self.assertEqual(state, ((2, 1, 0, 1), ()))

    def test_refrains_below_the_path(self):
        self.assertEqual(set_turn(NESTED, MIDDLE, 3, 0), ((1, 1, 0, 0), MIDDLE[1]))
        self.assertEqual(set_turn(NESTED, MIDDLE, 3, 1), MIDDLE)
        self.assertEqual(set_turn(NESTED, MIDDLE, 2, 0), MIDDLE)

    def test_busy(self):
        for refrain in (0, 1):
            for verse in range(3):
                self.assertRaises(RefrainBusy, set_turn, NESTED, MIDDLE, refrain, verse)
        # A refrain that is sung next, but has not started yet, is not on the path.
        state = ((1, 0), ((0, 0, 1),))
        self.assertEqual(set_turn(SONG, state, 1, 2), ((1, 2), ((0, 0, 1),)))
        self.assertRaises(RefrainBusy, set_turn, SONG, state, 0, 1)

    def test_bad_refrains_and_verses(self):
        for refrain in (-1, 4, 60, 10 ** 18):
            self.assertRaises(BadRefrain, set_turn, NESTED, MIDDLE, refrain, 0)
        for refrain, verses in enumerate(NESTED):
            for verse in (-1, len(verses), 4, 10 ** 18):
                self.assertRaises(BadCount, set_turn, NESTED, ((0,) * 4, ()), refrain, verse)

    def test_order_of_errors(self):
        self.assertRaises(BadBook, set_turn, BAD_BOOK, BAD_STATE, 9, 9)
        self.assertRaises(BadState, set_turn, SONG, BAD_STATE, 9, 9)
        self.assertRaises(BadRefrain, set_turn, NESTED, MIDDLE, 9, 9)
        self.assertRaises(BadRefrain, set_turn, NESTED, MIDDLE, -1, -1)
        # Refrain 0 is busy, too.
        self.assertRaises(BadCount, set_turn, NESTED, MIDDLE, 0, 9)
        self.assertRaises(BadCount, set_turn, NESTED, MIDDLE, 0, -1)

    def test_large_book(self):
        state = ((3,) * 60, ())
        self.assertEqual(set_turn(thicket(), state, 59, 0), ((3,) * 59 + (0,), ()))

    def test_the_song_that_follows(self):
        chance = random.Random(141)
        for _ in range(100):
            book = random_book(chance)
            state = random_state(chance, book)
            busy = {entry[0] for entry in state[1]}
            refrain = chance.randrange(len(book))
            verse = chance.randrange(len(book[refrain]))
            if refrain in busy:
                self.assertRaises(RefrainBusy, set_turn, book, state, refrain, verse)
                continue
            turns = list(state[0])
            turns[refrain] = verse
            changed = set_turn(book, state, refrain, verse)
            self.assertEqual(next_words(book, changed, 30), Record(book, (tuple(turns), state[1]), 30).words)


class StopSongTest(unittest.TestCase):
    def test_stop(self):
        self.assertEqual(stop_song(NESTED, MIDDLE), ((1, 1, 0, 1), ()))
        self.assertEqual(stop_song(SONG, START), START)
        self.assertEqual(MIDDLE, ((1, 1, 0, 1), ((0, 0, 1), (1, 0, 1))))

    def test_errors(self):
        self.assertRaises(BadBook, stop_song, BAD_BOOK, BAD_STATE)
        self.assertRaises(BadState, stop_song, SONG, BAD_STATE)
        self.assertRaises(BadState, stop_song, SONG, ((0,), ()))


class ReplaceVerseTest(unittest.TestCase):
    def test_every_verse(self):
        for refrain, verses in enumerate(NESTED):
            for verse in range(len(verses)):
                for items in (("new",), ("abcdefgh",) * 6) + (((3, "p", 3),) if refrain < 3 else ()):
                    expected = [list(verses) for verses in NESTED]
                    expected[refrain][verse] = items
                    expected = tuple(tuple(verses) for verses in expected)
                    self.assertEqual(replace_verse(NESTED, refrain, verse, items), expected)

    def test_other_refrains_may_become_unreachable(self):
        self.assertEqual(replace_verse(SONG, 0, 0, ("x",)), ((("x",), (1, "lu")), SONG[1]))
        self.assertEqual(replace_verse(((("a", 1),), (("b",),)), 0, 0, ("a",)), ((("a",),), (("b",),)))

    def test_bad_items(self):
        for items in ((), ("a",) * 7, ("",), ("abcdefghi",), ("A",), ("a b",), ("a1",), (1,), (0,), (4,), (-1,),
                      ("a", "b", 1), ("a", "b", "c", "d", "e", "F")):
            with self.subTest(items=items), self.assertRaises(BadBook) as caught:
                replace_verse(NESTED, 1, 2, items)
            self.assertEqual(vars(caught.exception), {"refrain": 1, "verse": 2})

    def test_last_refrain_can_only_have_words(self):
        for item in (58, 59, 60):
            with self.assertRaises(BadBook) as caught:
                replace_verse(thicket(), 59, 3, (item,))
            self.assertEqual(vars(caught.exception), {"refrain": 59, "verse": 3})
        self.assertEqual(replace_verse(thicket(), 58, 3, (59,))[58][3], (59,))

    def test_bad_refrains_and_verses(self):
        for refrain in (-1, 4, 60):
            self.assertRaises(BadRefrain, replace_verse, NESTED, refrain, 0, ("a",))
        for refrain, verses in enumerate(NESTED):
            for verse in (-1, len(verses), 10 ** 18):
                self.assertRaises(BadCount, replace_verse, NESTED, refrain, verse, ("a",))

    def test_order_of_errors(self):
        with self.assertRaises(BadBook) as caught:
            replace_verse(BAD_BOOK, 9, 9, ())
        self.assertEqual(vars(caught.exception), {"refrain": 0, "verse": 0})
        # The old book has to be valid, even if the new verse would mend it.
        self.assertRaises(BadBook, replace_verse, BAD_BOOK, 0, 0, ("a",))
        self.assertRaises(BadRefrain, replace_verse, NESTED, 9, 9, ())
        self.assertRaises(BadCount, replace_verse, NESTED, 0, 9, ())


if __name__ == "__main__":
    unittest.main()
