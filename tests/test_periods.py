"""Point 8: complete songs and periods."""

import random
import unittest
from collections import Counter
from fractions import Fraction

from sungbyturns.books import reachable_refrains
from sungbyturns.errors import BadBook, BadCount, BadTurns
from sungbyturns.periods import advance_songs, average_length, frequencies, period
from sungbyturns.positions import advance
from tests.plain_singer import sing_songs
from tests.sample_books import NESTED, SONG, medley, random_book, random_turns, sieve, thicket, tower

MOST = 10 ** 18
BAD_BOOK = ((("a", 1),),)
LARGE = (tower(), thicket(), sieve(), medley())
BAD_TURNS = ((), (0,), (0, 0, 0), (2, 0), (0, 3), (-1, 0), (0, -1))


def verse_starts(book, turns, songs):
    """How often each verse starts in a number of songs, by arithmetic of its own."""
    starts = [songs] + [0] * (len(book) - 1)
    table = []
    for refrain, verses in enumerate(book):
        rounds, rest = divmod(starts[refrain], len(verses))
        row = [rounds] * len(verses)
        for more in range(rest):
            row[(turns[refrain] + more) % len(verses)] += 1
        for verse, times in zip(verses, row):
            for item in verse:
                if not isinstance(item, str):
                    starts[item] += times
        table.append(row)
    return table


def songs_by_arithmetic(book, turns, songs):
    """Return (Counter of words, turns afterwards)."""
    table = verse_starts(book, turns, songs)
    words = Counter()
    for verses, row in zip(book, table):
        for verse, times in zip(verses, row):
            for item in verse:
                if isinstance(item, str):
                    words[item] += times
    return words, tuple((turn + sum(row)) % len(row) for turn, row in zip(turns, table))


def plain_period(book, turns, longest):
    """Sing songs until the turns return; return (songs, words), or None after too many songs."""
    reached = reachable_refrains(book)
    now = turns
    words = []
    for songs in range(1, longest + 1):
        sung, now = sing_songs(book, now, 1)
        words.extend(sung)
        if [now[refrain] for refrain in reached] == [turns[refrain] for refrain in reached]:
            return songs, words
    return None


def pair(fraction):
    return fraction.numerator, fraction.denominator


class AdvanceSongsTest(unittest.TestCase):
    def test_song_by_song(self):
        chance = random.Random(21)
        for _ in range(120):
            book = random_book(chance)
            turns = random_turns(chance, book)
            with self.subTest(book=book, turns=turns):
                for songs in (0, 1, 2, 3, 4, 5, 12, 25):
                    words, after = sing_songs(book, turns, songs)
                    self.assertEqual(advance_songs(book, turns, songs), (len(words), after))

    def test_far(self):
        chance = random.Random(22)
        for book in LARGE + (SONG, NESTED) + tuple(random_book(chance) for _ in range(40)):
            turns = random_turns(chance, book)
            for songs in (0, 1, 200, 5000, 10 ** 9 + 7, MOST - 1, MOST):
                words, after = songs_by_arithmetic(book, turns, songs)
                self.assertEqual(advance_songs(book, turns, songs), (sum(words.values()), after))

    def test_singing_as_many_words(self):
        for book in (sieve(), SONG, NESTED):
            turns = (1,) + (0,) * (len(book) - 1)
            for songs in (0, 1, 200, 5000, 10 ** 15):
                words, after = advance_songs(book, turns, songs)
                self.assertEqual(advance(book, (turns, ()), words), (after, ()))

    def test_two_parts_make_a_whole(self):
        for book in LARGE:
            turns = (0,) * len(book)
            words, between = advance_songs(book, turns, MOST // 3)
            more, after = advance_songs(book, between, MOST - MOST // 3)
            self.assertEqual(advance_songs(book, turns, MOST), (words + more, after))

    def test_some(self):
        self.assertEqual(advance_songs(SONG, (0, 0), 0), (0, (0, 0)))
        self.assertEqual(advance_songs(SONG, (1, 2), 0), (0, (1, 2)))
        self.assertEqual(advance_songs(SONG, (1, 2), 1), (2, (0, 0)))
        self.assertEqual(advance_songs(SONG, (0, 0), MOST), (2 * MOST, (0, MOST % 3)))
        self.assertEqual(advance_songs(tower(), (0,) * 60, MOST)[0], MOST * 6 ** 59)
        self.assertEqual(advance_songs(((("a",),),), (0,), MOST), (MOST, (0,)))

    def test_turns_of_unreachable_refrains_stay(self):
        for songs in (1, 7, MOST):
            _, after = advance_songs(((("a",),), ((2,), ("b",)), (("c",), ("d",))), (0, 1, 1), songs)
            self.assertEqual(after, (0, 1, 1))

    def test_bad_turns(self):
        for turns in BAD_TURNS:
            for songs in (0, 1, -1, MOST + 1):
                with self.subTest(turns=turns, songs=songs):
                    self.assertRaises(BadTurns, advance_songs, SONG, turns, songs)

    def test_bad_counts(self):
        for songs in (-1, MOST + 1, -MOST, 10 ** 40):
            self.assertRaises(BadCount, advance_songs, SONG, (0, 0), songs)

    def test_bad_book(self):
        for turns, songs in (((0,), 1), ((0, 0), 1), ((0,), -1), ((5,), MOST + 1)):
            with self.assertRaises(BadBook) as caught:
                advance_songs(BAD_BOOK, turns, songs)
            self.assertEqual((caught.exception.refrain, caught.exception.verse), (0, 0))


class SmallPeriodsTest(unittest.TestCase):
    """Against singing until the turns return, from any turns."""

    def test_random_books(self):
        chance = random.Random(23)
        checked = 0
        for _ in range(150):
            book = random_book(chance)
            for turns in ((0,) * len(book), random_turns(chance, book)):
                found = plain_period(book, turns, 600)
                if found is None:
                    self.assertGreater(period(book)[0], 600)
                    continue
                checked += 1
                with self.subTest(book=book, turns=turns):
                    self.check(book, *found)
        self.assertGreater(checked, 200)

    def check(self, book, songs, words):
        self.assertEqual(period(book), (songs, len(words)))
        self.assertEqual(average_length(book), pair(Fraction(len(words), songs)))
        expected = {word: pair(Fraction(times, len(words))) for word, times in Counter(words).items()}
        self.assertEqual(frequencies(book), expected)


class LargePeriodsTest(unittest.TestCase):
    def test_smallest_number_of_songs(self):
        chance = random.Random(24)
        for book in LARGE + (tower(7), thicket(9), medley(20)):
            songs, words = period(book)
            for turns in ((0,) * len(book), random_turns(chance, book)):
                counted, after = songs_by_arithmetic(book, turns, songs)
                self.assertEqual((sum(counted.values()), after), (words, turns))
                # Turns return after the multiples of the period only, so these tell if it is the smallest.
                for prime in (2, 3, 5, 7):
                    if songs % prime == 0:
                        self.assertNotEqual(songs_by_arithmetic(book, turns, songs // prime)[1], turns)

    def test_all_of_them(self):
        for book in LARGE:
            songs, words = period(book)
            counted, _ = songs_by_arithmetic(book, (0,) * len(book), songs)
            self.assertEqual(average_length(book), pair(Fraction(words, songs)))
            shares = frequencies(book)
            self.assertEqual(shares, {word: pair(Fraction(counted[word], words)) for word in counted if counted[word]})
            self.assertEqual(sum(Fraction(*share) for share in shares.values()), 1)

    def test_known_ones(self):
        self.assertEqual(period(tower()), (1, 6 ** 59))
        self.assertEqual(average_length(tower()), (6 ** 59, 1))
        self.assertEqual(frequencies(tower()), {letter: (1, 4) for letter in "abcd"})
        self.assertEqual(period(sieve()), (4 ** 59, 4 ** 59))
        self.assertEqual(average_length(sieve()), (1, 1))
        self.assertEqual(frequencies(sieve()), {"x": (4 ** 59 - 1, 4 ** 59), "y": (1, 4 ** 59)})


class PeriodTest(unittest.TestCase):
    def test_smallest_books(self):
        self.assertEqual(period(((("a",),),)), (1, 1))
        self.assertEqual(average_length(((("a",),),)), (1, 1))
        self.assertEqual(frequencies(((("a",),),)), {"a": (1, 1)})
        self.assertEqual(period((tuple((word,) * 6 for word in "abcd"),)), (4, 24))

    def test_equal_verses_count(self):
        # The period is about turns; the words alone would begin anew after each song.
        self.assertEqual(period(((("a",), ("a",), ("a",)),)), (3, 3))

    def test_parts_of_rounds(self):
        for many, songs in ((1, 4), (2, 2), (3, 4), (4, 1), (6, 2)):
            book = (((1,) * many,), (("a",), ("b",), ("c",), ("d", "e")))
            self.assertEqual(period(book), (songs, songs * many * 5 // 4))

    def test_whole_songs_only(self):
        # Refrain 1 is back at its first verse after one song, refrain 0 after two.
        self.assertEqual(period((((1, 1), (1, 1)), (("a",), ("b", "c")))), (2, 6))

    def test_unreachable_refrains_do_not_count(self):
        silent = (("x", 3), ("y",), ("z",))
        book = (((2,), (2, "a")), silent, (("b",), ("c",)), (("d",), ("e",), ("f",)))
        self.assertEqual(period(book), (2, 3))
        self.assertEqual(average_length(book), (3, 2))
        self.assertEqual(frequencies(book), {word: (1, 3) for word in "abc"})
        self.assertEqual(period(((("a",),),) + (silent[1:],) * 59), (1, 1))

    def test_word_in_and_out_of_reach(self):
        book = ((("a", "b"),), (("a",), ("c",)))
        self.assertEqual(frequencies(book), {"a": (1, 2), "b": (1, 2)})

    def test_bad_books(self):
        for call in (period, average_length, frequencies):
            for book, place in (((), (0, -1)), (BAD_BOOK, (0, 0)), ((SONG[1],) * 61, (60, -1))):
                with self.assertRaises(BadBook) as caught:
                    call(book)
                self.assertEqual((caught.exception.refrain, caught.exception.verse), place)


if __name__ == "__main__":
    unittest.main()
