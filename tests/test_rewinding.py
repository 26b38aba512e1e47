"""Point 5: rewinding."""

import unittest

from sungbyturns.errors import BadBook, BadCount, BadState
from sungbyturns.positions import advance, word_at
from sungbyturns.rewinding import rewind
from sungbyturns.states import initial_state
from tests.plain_singer import Record
from tests.sample_books import NESTED, SONG, medley, random_places, sieve, thicket, tower

MOST = 10 ** 18
BAD_BOOK = ((("a", 1),),)
MIDDLE = ((0, 2), ((0, 1, 1),))
BAD_STATE = ((0, 0), ((0, 0, 1),))
LARGE = (tower(), thicket(), sieve(), medley())
COUNTS = (0, 1, 2, 199, 200, 5000, 10 ** 9 + 7, MOST - 1, MOST)


class WordByWordTest(unittest.TestCase):
    """Against a singer that sings word by word."""

    def test_back_to_each_state(self):
        for book, state in random_places(11, 60):
            states = Record(book, state, 60).states
            with self.subTest(book=book, state=state):
                for now in range(61):
                    for count in (0, 1, 2, 7, now):
                        if count <= now:
                            self.assertEqual(rewind(book, states[now], count), states[now - count])

    def test_singing_as_many_words_leads_back(self):
        for book, state in random_places(12, 40):
            with self.subTest(book=book, state=state):
                for count in range(60):
                    before = rewind(book, state, count)
                    self.assertEqual(Record(book, before, count).states[-1], state)

    def test_nested_book(self):
        states = Record(NESTED, initial_state(NESTED), 5000).states
        for now in (1, 2, 199, 200, 201, 4999, 5000):
            for count in (0, 1, 2, 199, 200, 4999, 5000):
                if count <= now:
                    self.assertEqual(rewind(NESTED, states[now], count), states[now - count])

    def test_large_books(self):
        for book in LARGE:
            start = advance(book, initial_state(book), 10 ** 17 + 4321)
            states = Record(book, start, 250).states
            for now in (0, 1, 2, 6, 7, 36, 199, 250):
                self.assertEqual(rewind(book, states[now], now), start)
                self.assertEqual(rewind(book, states[250], 250 - now), states[now])

    def test_far_in_small_books(self):
        checked = 0
        for book, state in random_places(13, 60):
            states = Record(book, state, 2000).states
            if state in states[1:]:
                checked += 1
                period = states.index(state, 1)
                for count in (MOST, MOST - 1, 10 ** 17 + 3):
                    self.assertEqual(rewind(book, state, count), states[-count % period])
        self.assertGreater(checked, 90)


class RewindTest(unittest.TestCase):
    def test_into_the_song_before(self):
        start = initial_state(SONG)
        self.assertEqual(rewind(SONG, start, 0), start)
        self.assertEqual(rewind(SONG, start, 1), ((0, 0), ((0, 1, 1),)))
        self.assertEqual(rewind(SONG, start, 2), ((1, 2), ()))
        self.assertEqual(rewind(SONG, start, 3), ((1, 1), ((0, 0, 1),)))
        self.assertEqual(rewind(SONG, start, 4), ((0, 1), ()))
        self.assertEqual(rewind(SONG, start, 12), start)
        self.assertEqual(rewind(SONG, start, MOST), rewind(SONG, start, MOST % 12))

    def test_within_the_song(self):
        self.assertEqual(rewind(SONG, MIDDLE, 0), MIDDLE)
        self.assertEqual(rewind(SONG, MIDDLE, 1), ((1, 1), ()))
        self.assertEqual(rewind(SONG, MIDDLE, 3), ((0, 0), ()))

    def test_deep_paths(self):
        book = (((1,),), (("a", 2),), (("b", "c"), ("d",)))
        deep = ((0, 0, 1), ((0, 0, 0), (1, 0, 1), (2, 0, 1)))
        self.assertEqual(rewind(book, deep, 1), ((0, 0, 0), ((0, 0, 0), (1, 0, 1))))
        self.assertEqual(rewind(book, deep, 2), ((0, 0, 0), ()))
        self.assertEqual(rewind(book, ((0, 0, 1), ()), 1), deep)

    def test_deepest_path(self):
        book = tower()[:-1] + ((("a", "b", "c"),),)
        path = tuple((number, 0, number % 6) for number in range(59)) + ((59, 0, 2),)
        state = ((0,) * 60, path)
        for count in COUNTS:
            self.assertEqual(advance(book, rewind(book, state, count), count), state)
        self.assertEqual(rewind(book, state, 1), ((0,) * 60, path[:-1] + ((59, 0, 1),)))
        # Two words back refrain 59 has not started yet; it is the item that refrain 58 sings next.
        self.assertEqual(rewind(book, state, 2), ((0,) * 60, path[:-1]))

    def test_one_word(self):
        book = ((("a",),),)
        for count in COUNTS:
            self.assertEqual(rewind(book, ((0,), ()), count), ((0,), ()))

    def test_turns_of_unreachable_refrains_stay(self):
        book = ((("a", 1), ("b",)), (("c",), ("d",)), (("e",), ("f",), (3,)), (("g",), ("h",)))
        for count in COUNTS:
            self.assertEqual(rewind(book, ((1, 0, 2, 1), ()), count)[0][2:], (2, 1))


class TwoWaysTest(unittest.TestCase):
    """Rewinding and singing are opposite ways, near and far."""

    def test_there_and_back(self):
        for book in LARGE + (SONG, NESTED):
            for state in (initial_state(book), advance(book, initial_state(book), 10 ** 16 + 3)):
                for count in COUNTS:
                    self.assertEqual(advance(book, rewind(book, state, count), count), state)
                    self.assertEqual(rewind(book, advance(book, state, count), count), state)

    def test_two_steps_are_one(self):
        for book in LARGE + (SONG, NESTED):
            state = advance(book, initial_state(book), 10 ** 12 + 1)
            for first, second in ((1, 1), (1, MOST - 1), (MOST // 3, MOST // 7), (MOST - 5000, 5000), (0, MOST)):
                together = rewind(book, state, first + second)
                self.assertEqual(rewind(book, rewind(book, state, first), second), together)
                self.assertEqual(rewind(book, rewind(book, state, second), first), together)

    def test_less_back_than_forth(self):
        for book in LARGE:
            start = initial_state(book)
            after = advance(book, start, MOST)
            for count in (1, 5000, MOST // 2, MOST - 1):
                self.assertEqual(rewind(book, after, count), advance(book, start, MOST - count))
                self.assertEqual(word_at(book, rewind(book, after, count), 1), word_at(book, start, MOST - count + 1))

    def test_beyond_the_limit_in_steps(self):
        book = thicket()
        state = initial_state(book)
        for _ in range(3):
            state = rewind(book, state, MOST)
        for _ in range(3):
            state = advance(book, state, MOST)
        self.assertEqual(state, initial_state(book))


class ErrorsTest(unittest.TestCase):
    def test_bad_counts(self):
        for state in (initial_state(SONG), MIDDLE):
            for count in (-1, MOST + 1, -MOST, 10 ** 30):
                with self.subTest(state=state, count=count):
                    self.assertRaises(BadCount, rewind, SONG, state, count)

    def test_order(self):
        with self.assertRaises(BadBook) as caught:
            rewind(BAD_BOOK, BAD_STATE, -1)
        self.assertEqual((caught.exception.refrain, caught.exception.verse), (0, 0))
        for count in (0, 1, -1, MOST + 1):
            self.assertRaises(BadState, rewind, SONG, BAD_STATE, count)


if __name__ == "__main__":
    unittest.main()
