"""Point 13: what the words that were heard tell about the turns."""

import itertools
import math
import random
import unittest

from sungbyturns.errors import BadBook, TooManyCandidates, TooManyWords
from sungbyturns.inference import infer_turns
from tests.plain_singer import Record, events
from tests.sample_books import (
    NESTED, SONG, medley, random_book, random_turns, repetitive_book, sieve, thicket, tower,
)

# Refrain 0 starts the refrains 1 to 5, each of which sings the word x by any of its four verses.
FIVE = (((1, 2, 3, 4, 5),),) + ((("x",), ("x",), ("x",), ("x",)),) * 5


def heard_by(book, turns, count):
    """The first words of a song, and after each of them the turns of the refrains that have started."""
    words, started, known = [], {}, []
    for kind, what, _ in events(book, list(turns), ()):
        if len(words) == count:
            return words, known
        if kind == "start":
            started[what] = turns[what]
        else:
            words.append(what)
            known.append(tuple(sorted(started.items())))


def search(book, words):
    """What infer_turns has to return, by trying all turns; True if it has to raise TooManyCandidates."""
    fitting, following = [], set()
    different = [set() for _ in words]
    for turns in itertools.product(*(range(len(verses)) for verses in book)):
        sung, known = heard_by(book, turns, len(words) + 1)
        for at, word in enumerate(words):
            if sung[at] != word:
                break
            different[at].add(known[at])
        if sung[:-1] == words:
            fitting.append(turns)
            following.add(sung[-1])
    if any(len(turns) > 500 for turns in different):
        return True
    if not fitting:
        return 0, None, []
    certain = tuple(column[0] if len(set(column)) == 1 else None for column in zip(*fitting))
    return len(fitting), certain, sorted(following)


def sung_words(book, turns, count):
    return [word for word, _ in Record(book, (turns, ()), count).words]


def book_of_ways(ways):
    """A book that can sing x first in so many ways, by different turns of the refrains that start for it."""
    book = []
    while ways > 1:
        after = len(book) + 1
        book.append(((after,), ("x",), (after,)) if ways % 2 else ((after,), (after,)))
        ways //= 2
    return tuple(book) + ((("x",),),)


def ladder():
    """A song of 60 words, each of which tells the turn of one refrain."""
    rows = []
    for number in range(60):
        name = "abcdefgh"[number // 8] + "abcdefgh"[number % 8]
        after = (number + 1,) if number < 59 else ()
        rows.append(tuple((name + letter,) + after for letter in "abcd"))
    return tuple(rows)


class SearchTest(unittest.TestCase):
    """Against the trial of all turns in small books."""

    def check(self, book, words):
        with self.subTest(book=book, words=words):
            expected = search(book, words)
            if expected is True:
                self.assertRaises(TooManyCandidates, infer_turns, book, words)
            else:
                self.assertEqual(infer_turns(book, words), expected)
        return expected

    def test_words_that_were_sung(self):
        chance = random.Random(13)
        for _ in range(150):
            book = random_book(chance)
            words = sung_words(book, random_turns(chance, book), chance.randint(0, 12))
            self.assertNotEqual(self.check(book, words), (0, None, []))

    def test_few_words_in_repetitive_books(self):
        chance = random.Random(14)
        for _ in range(150):
            book = repetitive_book(chance)
            self.check(book, sung_words(book, random_turns(chance, book), chance.randint(0, 20)))

    def test_words_of_which_one_is_changed(self):
        chance = random.Random(15)
        silent = 0
        for _ in range(150):
            book = random_book(chance)
            words = sung_words(book, random_turns(chance, book), chance.randint(1, 8))
            words[chance.randrange(len(words))] = chance.choice("abcde")
            silent += self.check(book, words) == (0, None, [])
        self.assertGreater(silent, 40)

    def test_many_candidates(self):
        chance = random.Random(16)
        too_many = 0
        for _ in range(12):
            verses = tuple((chance.choice("xxxy"),) for _ in range(4))
            book = (((1, 2, 3, 4, 5),),) + (verses,) * 5
            for count in (4, 5, 9):
                too_many += self.check(book, sung_words(book, random_turns(chance, book), count)) is True
        self.assertGreater(too_many, 5)


class InferTest(unittest.TestCase):
    def test_no_words(self):
        self.assertEqual(infer_turns(((("a",),),), []), (1, (0,), ["a"]))
        self.assertEqual(infer_turns(SONG, []), (6, (None, None), ["a", "b", "c", "la"]))
        self.assertEqual(infer_turns(NESTED, []), (18, (None, None, 0, None), ["do", "fa", "mi", "sol", "x", "y"]))

    def test_no_words_in_large_books(self):
        for book in (tower(), thicket(), sieve(), medley()):
            count, certain, following = infer_turns(book, [])
            self.assertEqual(count, math.prod(len(verses) for verses in book))
            self.assertEqual(certain, tuple(0 if len(verses) == 1 else None for verses in book))
            self.assertEqual(following, sorted(set(following)))
        self.assertEqual(infer_turns(sieve(), []), (4 ** 59, (None,) * 59 + (0,), ["x", "y"]))

    def test_all_of_a_large_book(self):
        # The word y tells the turns of all refrains.
        self.assertEqual(infer_turns(sieve(), ["y"]), (1, (3,) * 59 + (0,), ["x"]))
        self.assertEqual(infer_turns(sieve(), ["y", "y"]), (0, None, []))
        # Whichever refrain sang x, those below it have not started.
        book = sieve(6)
        self.assertEqual(infer_turns(book, ["x"])[0], 4 ** 5 - 1)

    def test_some_of_a_large_book(self):
        book = ladder()
        turns = tuple(number * number % 4 for number in range(60))
        words = sung_words(book, turns, 61)
        for count in (1, 2, 30, 58, 59, 60):
            with self.subTest(count=count):
                certain = turns[:count] + (None,) * (60 - count)
                following = [words[60]] if count == 60 else [words[count][:-1] + letter for letter in "abcd"]
                self.assertEqual(infer_turns(book, words[:count]), (4 ** (60 - count), certain, following))
                self.assertEqual(infer_turns(book, words[:count - 1] + ["x"]), (0, None, []))

    def test_refrain_of_one_verse_is_certain(self):
        book = (((1, "a"), ("b",)), (("c",),), (("d",),), (("e",), ("f",)))
        self.assertEqual(infer_turns(book, ["b"]), (2, (1, 0, 0, None), ["c"]))

    def test_refrains_that_cannot_be_reached(self):
        book = ((("a",), ("b",)), (("c",), ("d",), ("e",)), (("f",),) * 4)
        self.assertEqual(infer_turns(book, ["b"]), (12, (1, None, None), ["a"]))
        self.assertEqual(infer_turns(book, ["b", "a", "b"]), (12, (1, None, None), ["a"]))
        self.assertEqual(infer_turns(book, ["c"]), (0, None, []))

    def test_turns_are_those_of_the_beginning(self):
        self.assertEqual(infer_turns(SONG, ["c", "lu", "la", "a"]), (1, (1, 2), ["b"]))
        self.assertEqual(infer_turns(SONG, ["la"]), (3, (0, None), ["a", "b", "c"]))

    def test_words_that_cannot_be_heard(self):
        for word in ("never", "lu", "", "A", "refrains", "la la", "abcdefghijk"):
            with self.subTest(word=word):
                self.assertEqual(infer_turns(SONG, [word]), (0, None, []))
                self.assertEqual(infer_turns(SONG, ["la", word]), (0, None, []))
                self.assertEqual(infer_turns(SONG, [word, "la"]), (0, None, []))

    def test_heard_from_the_start_of_a_song_on(self):
        # Refrain 0 would sing b only behind a.
        self.assertEqual(infer_turns(((("a", "b"),),), ["b"]), (0, None, []))
        self.assertEqual(infer_turns(((("a", "b"),),), ["a", "b", "a"]), (1, (0,), ["b"]))

    def test_words_of_a_verse_and_of_a_refrain_differ_in_what_follows(self):
        book = (((1, "p"), ("x", "q")), (("x",), ("y",)))
        self.assertEqual(infer_turns(book, ["x"]), (3, (None, None), ["p", "q"]))
        self.assertEqual(infer_turns(book, ["x", "q"]), (2, (1, None), ["x", "y"]))


class LimitsTest(unittest.TestCase):
    def test_sixty_words(self):
        turns = (1, 2)
        words = sung_words(SONG, turns, 62)
        self.assertEqual(infer_turns(SONG, words[:60]), (1, turns, [words[60]]))
        self.assertRaises(TooManyWords, infer_turns, SONG, words[:61])
        self.assertRaises(TooManyWords, infer_turns, SONG, words)
        self.assertRaises(TooManyWords, infer_turns, SONG, ["never"] * 61)
        self.assertEqual(infer_turns(SONG, ["never"] * 60), (0, None, []))

    def test_candidates_of_refrains_that_have_started(self):
        self.assertEqual(infer_turns(FIVE, ["x"] * 4), (4 ** 5, (0,) + (None,) * 5, ["x"]))
        self.assertRaises(TooManyCandidates, infer_turns, FIVE, ["x"] * 5)
        self.assertRaises(TooManyCandidates, infer_turns, FIVE, ["x"] * 60)

    def test_five_hundred_and_one(self):
        for ways in range(495, 506):
            book = book_of_ways(ways)
            with self.subTest(ways=ways):
                if ways <= 500:
                    self.assertEqual(infer_turns(book, ["x"]), search(book, ["x"]))
                else:
                    self.assertRaises(TooManyCandidates, infer_turns, book, ["x"])

    def test_too_many_after_any_word(self):
        # After the fifth word there are too many; the sixth would leave none.
        self.assertRaises(TooManyCandidates, infer_turns, FIVE, ["x"] * 5 + ["y"])
        self.assertRaises(TooManyCandidates, infer_turns, FIVE, ["x"] * 5 + ["y"] * 50)
        # If the fifth word leaves none, there are none.
        self.assertEqual(infer_turns(FIVE, ["x"] * 4 + ["y", "x"]), (0, None, []))

    def test_too_many_at_once(self):
        # All of 4 ** 59 turns sing x first.
        book = tuple(((number + 1,),) * 4 for number in range(59)) + ((("x",),),)
        self.assertEqual(infer_turns(book, []), (4 ** 59, (None,) * 59 + (0,), ["x"]))
        self.assertRaises(TooManyCandidates, infer_turns, book, ["x"])
        self.assertEqual(infer_turns(book, ["y"]), (0, None, []))

    def test_order_of_errors(self):
        with self.assertRaises(BadBook) as caught:
            infer_turns(((("a", 1),),), ["a"] * 61)
        self.assertEqual(vars(caught.exception), {"refrain": 0, "verse": 0})
        self.assertRaises(TooManyWords, infer_turns, FIVE, ["x"] * 61)


if __name__ == "__main__":
    unittest.main()
