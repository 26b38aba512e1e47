"""Points 4 to 7: positions, counts, and the positions of words and starts."""

import unittest

from sungbyturns.errors import BadBook, BadCount, BadRefrain, BadState
from sungbyturns.positions import advance, count_words, find_start, find_word, word_at
from sungbyturns.states import initial_state, next_words
from tests.plain_singer import Record
from tests.sample_books import NESTED, SONG, random_places, sieve, thicket, tower

MOST = 10 ** 18
BAD_BOOK = ((("a", 1),),)
MIDDLE = ((0, 2), ((0, 1, 1),))
BAD_STATE = ((0, 0), ((0, 0, 1),))


class WordByWordTest(unittest.TestCase):
    """Every function against a singer that sings word by word."""

    HEARD = 90

    def test_word_at_and_advance(self):
        for book, state in random_places(1, 40):
            record = Record(book, state, self.HEARD)
            with self.subTest(book=book, state=state):
                for count in range(self.HEARD + 1):
                    self.assertEqual(advance(book, state, count), record.states[count])
                for number in range(1, self.HEARD + 1):
                    self.assertEqual(word_at(book, state, number), record.words[number - 1])

    def test_count_words(self):
        for book, state in random_places(2, 40):
            record = Record(book, state, self.HEARD)
            with self.subTest(book=book, state=state):
                for count in range(self.HEARD + 1):
                    self.assertEqual(count_words(book, state, count), record.counts(count))

    def test_find_word(self):
        for book, state in random_places(3, 40):
            record = Record(book, state, self.HEARD)
            with self.subTest(book=book, state=state):
                for word in "abcde":
                    for number, position in enumerate(record.positions_of(word)):
                        self.assertEqual(find_word(book, state, word, number + 1), position)

    def test_find_start(self):
        for book, state in random_places(4, 40):
            record = Record(book, state, self.HEARD)
            with self.subTest(book=book, state=state):
                for refrain in range(len(book)):
                    for number, before in enumerate(record.starts_of(refrain)):
                        self.assertEqual(find_start(book, state, refrain, number + 1), before)

    def test_nested_book(self):
        for state in (initial_state(NESTED), ((2, 1, 0, 0), ((0, 1, 2), (1, 0, 0), (3, 1, 1)))):
            record = Record(NESTED, state, 300)
            for count in range(301):
                self.assertEqual(advance(NESTED, state, count), record.states[count])
                self.assertEqual(count_words(NESTED, state, count), record.counts(count))
            for word in ("do", "re", "mi", "fa", "sol", "x", "y", "z"):
                for number, position in enumerate(record.positions_of(word)):
                    self.assertEqual(find_word(NESTED, state, word, number + 1), position)
            for refrain in (0, 1, 3):
                for number, before in enumerate(record.starts_of(refrain)):
                    self.assertEqual(find_start(NESTED, state, refrain, number + 1), before)

    def test_large_book(self):
        book = thicket()
        state = advance(book, initial_state(book), 10 ** 17 + 12345)
        record = Record(book, state, 120)
        for count in (0, 1, 7, 40, 119, 120):
            self.assertEqual(advance(book, state, count), record.states[count])
            self.assertEqual(count_words(book, state, count), record.counts(count))
        self.assertEqual([word_at(book, state, at) for at in (1, 60, 120)], [record.words[at] for at in (0, 59, 119)])


class PeriodTest(unittest.TestCase):
    """Counts of 10 ** 18 in small books, by way of the period that singing shows."""

    def test_far_positions(self):
        checked = 0
        for book, state in random_places(6, 60):
            record = Record(book, state, 2000)
            if state not in record.states[1:]:
                continue
            checked += 1
            with self.subTest(book=book, state=state):
                self.check_far(book, state, record, record.states.index(state, 1))
        self.assertGreater(checked, 90)

    def check_far(self, book, state, record, period):
        self.assertEqual(word_at(book, state, MOST), record.words[(MOST - 1) % period])
        self.assertEqual(advance(book, state, MOST), record.states[MOST % period])
        rounds, rest = divmod(MOST, period)
        words, verses = record.counts(period)
        rest_words, rest_verses = record.counts(rest)
        self.assertEqual(
            count_words(book, state, MOST),
            (
                {word: rounds * words[word] + rest_words.get(word, 0) for word in words},
                [[rounds * a + b for a, b in zip(row, more)] for row, more in zip(verses, rest_verses)],
            ),
        )
        for word in words:
            places = record.positions_of(word)[:words[word]]
            self.assertEqual(find_word(book, state, word, MOST), self.far(places, period))
        for refrain, row in enumerate(verses):
            if sum(row):
                places = record.starts_of(refrain)[:sum(row)]
                self.assertEqual(find_start(book, state, refrain, MOST), self.far(places, period))

    def far(self, places, period):
        """The place with number MOST if the places of one period come again and again."""
        rounds, at = divmod(MOST - 1, len(places))
        return rounds * period + places[at]


class WordAtTest(unittest.TestCase):
    def test_first_and_last(self):
        self.assertEqual(word_at(SONG, initial_state(SONG), 1), ("la", ((0, 0, 0),)))
        self.assertEqual(word_at(SONG, initial_state(SONG), MOST - 1), ("b", ((0, 1, 0), (1, 1, 0))))
        self.assertEqual(word_at(SONG, MIDDLE, 1), ("lu", ((0, 1, 1),)))
        # Four words into the period of twelve, as 10 ** 18 is after 3 more words.
        self.assertEqual(word_at(SONG, MIDDLE, MOST), word_at(SONG, MIDDLE, (MOST - 1) % 12 + 1))
        self.assertEqual(word_at(SONG, MIDDLE, MOST), next_words(SONG, MIDDLE, 4)[3])

    def test_bad_numbers(self):
        for state in (initial_state(SONG), MIDDLE):
            for number in (0, -1, MOST + 1, 10 ** 30):
                with self.subTest(state=state, number=number):
                    self.assertRaises(BadCount, word_at, SONG, state, number)

    def test_tower(self):
        book = tower()
        digits = []
        left = MOST - 1
        for _ in range(59):
            digits.append(left % 6)
            left //= 6
        path = tuple((number, 0, digit) for number, digit in enumerate(reversed(digits)))
        self.assertEqual(word_at(book, initial_state(book), MOST), ("d", path + ((59, 3, 0),)))


class AdvanceTest(unittest.TestCase):
    def test_counts(self):
        start = initial_state(SONG)
        self.assertEqual(advance(SONG, start, 0), start)
        self.assertEqual(advance(SONG, MIDDLE, 0), MIDDLE)
        self.assertEqual(advance(SONG, start, 1), ((1, 0), ((0, 0, 1),)))
        self.assertEqual(advance(SONG, start, 4), ((0, 2), ()))
        self.assertEqual(advance(SONG, start, MOST), ((0, 2), ()))
        self.assertEqual(advance(SONG, MIDDLE, 1), ((0, 2), ()))
        self.assertEqual(advance(SONG, MIDDLE, MOST), advance(SONG, start, 7))

    def test_bad_counts(self):
        for state in (initial_state(SONG), MIDDLE):
            for count in (-1, MOST + 1, -MOST):
                with self.subTest(state=state, count=count):
                    self.assertRaises(BadCount, advance, SONG, state, count)

    def test_empty_path_behind_a_song(self):
        # The song ends in the last word of a refrain of a refrain.
        book = (((1,),), (("a", 2),), (("b",), ("c",)))
        self.assertEqual(advance(book, initial_state(book), 1), ((0, 0, 0), ((0, 0, 0), (1, 0, 1))))
        self.assertEqual(advance(book, initial_state(book), 2), ((0, 0, 1), ()))

    def test_two_parts_make_a_whole(self):
        for book in (tower(), thicket(), sieve()):
            state = initial_state(book)
            for first, second in ((1, MOST - 1), (MOST // 3, MOST // 7), (MOST - 12345, 12345)):
                between = advance(book, state, first)
                self.assertEqual(advance(book, between, second), advance(book, state, first + second))

    def test_word_at_follows_advance(self):
        for book in (tower(), thicket(), sieve()):
            state = initial_state(book)
            for count in (0, 1, 10 ** 9 + 7, MOST - 2):
                after = advance(book, state, count)
                self.assertEqual(next_words(book, after, 2), [word_at(book, state, count + k) for k in (1, 2)])

    def test_again_and_again(self):
        book = thicket()
        state = initial_state(book)
        for _ in range(5):
            state = advance(book, state, MOST)
        self.assertEqual(advance(book, state, 0), state)


class CountWordsTest(unittest.TestCase):
    def test_nothing(self):
        for state in (initial_state(SONG), MIDDLE):
            self.assertEqual(count_words(SONG, state, 0), ({}, [[0, 0], [0, 0, 0]]))
        self.assertEqual(count_words(NESTED, initial_state(NESTED), 0), ({}, [[0] * 3, [0] * 3, [0], [0] * 2]))

    def test_some(self):
        self.assertEqual(count_words(SONG, initial_state(SONG), 1), ({"la": 1}, [[1, 0], [0, 0, 0]]))
        self.assertEqual(count_words(SONG, initial_state(SONG), 3), ({"la": 1, "a": 1, "b": 1}, [[1, 1], [1, 1, 0]]))
        # The verses that are being sung have started before.
        self.assertEqual(count_words(SONG, MIDDLE, 1), ({"lu": 1}, [[0, 0], [0, 0, 0]]))
        self.assertEqual(count_words(SONG, MIDDLE, 3), ({"lu": 1, "la": 1, "c": 1}, [[1, 0], [0, 0, 1]]))

    def test_refrains_that_are_never_sung(self):
        words, verses = count_words(NESTED, initial_state(NESTED), MOST)
        self.assertNotIn("never", words)
        self.assertEqual(sum(words.values()), MOST)
        self.assertEqual(verses[2], [0])
        self.assertEqual([len(row) for row in verses], [3, 3, 1, 2])

    def test_far(self):
        words, verses = count_words(SONG, initial_state(SONG), MOST)
        rounds = MOST // 12
        self.assertEqual(MOST % 12, 4)
        self.assertEqual(
            words,
            {"la": 3 * rounds + 1, "lu": 3 * rounds + 1, "a": 2 * rounds + 1, "b": 2 * rounds + 1, "c": 2 * rounds},
        )
        self.assertEqual(verses, [[3 * rounds + 1] * 2, [2 * rounds + 1, 2 * rounds + 1, 2 * rounds]])

    def test_bad_counts(self):
        for state in (initial_state(SONG), MIDDLE):
            for count in (-1, MOST + 1):
                with self.subTest(state=state, count=count):
                    self.assertRaises(BadCount, count_words, SONG, state, count)

    def test_tower(self):
        words, verses = count_words(tower(), initial_state(tower()), MOST)
        self.assertEqual(words, {letter: MOST // 4 for letter in "abcd"})
        self.assertEqual(verses[59], [MOST // 4] * 4)
        self.assertEqual(verses[58], [-(-MOST // 6)])
        self.assertEqual(verses[0], [1])

    def test_sieve(self):
        words, verses = count_words(sieve(), initial_state(sieve()), MOST)
        self.assertEqual(words, {"x": MOST})
        self.assertEqual(verses[0], [MOST // 4] * 4)
        self.assertEqual(verses[59], [0])

    def test_thicket(self):
        book = thicket()
        state = advance(book, initial_state(book), 987654321)
        words, verses = count_words(book, state, MOST)
        self.assertEqual(sum(words.values()), MOST)
        turns, _ = advance(book, state, MOST)
        for refrain, row in enumerate(verses):
            self.assertLessEqual(max(row) - min(row), 1)
            self.assertEqual((state[0][refrain] + sum(row)) % 4, turns[refrain])
        for word, number in words.items():
            self.assertLessEqual(find_word(book, state, word, number), MOST)
            if number < MOST:
                self.assertGreater(find_word(book, state, word, number + 1), MOST)


class FindWordTest(unittest.TestCase):
    def test_first_later_and_last(self):
        start = initial_state(SONG)
        self.assertEqual([find_word(SONG, start, "la", number) for number in (1, 2, 3, 4)], [1, 5, 9, 13])
        self.assertEqual([find_word(SONG, start, "c", number) for number in (1, 2, 3)], [6, 11, 18])
        self.assertEqual(find_word(SONG, start, "la", MOST), 4 * (MOST - 1) + 1)
        self.assertEqual(find_word(SONG, start, "c", MOST), 12 * (MOST // 2 - 1) + 11)

    def test_words_that_never_occur(self):
        for state in (initial_state(NESTED), ((2, 2, 0, 0), ((0, 1, 0), (1, 1, 2)))):
            for word in ("never", "nowhere", "d", "dodo", "", "DO", "3"):
                for number in (1, MOST):
                    with self.subTest(state=state, word=word, number=number):
                        self.assertIsNone(find_word(NESTED, state, word, number))

    def test_word_until_the_song_ends(self):
        # In the first of the verses only; the middle of the others lacks it.
        book = ((("la", 1, "zu"), ("mi",), ("mo", "mu")), (("a",), ("zu", "b")))
        state = ((1, 0), ((0, 0, 1),))
        positions = Record(book, state, 50).positions_of("zu")
        self.assertEqual(positions[0], 2)
        self.assertEqual([find_word(book, state, "zu", k + 1) for k in range(len(positions))], positions)
        last = ((1, 0), ((0, 0, 2),))
        self.assertEqual(find_word(book, last, "zu", 1), 1)
        self.assertEqual(find_word(book, last, "zu", 2), 1 + 3 + 3)

    def test_word_only_after_the_song(self):
        book = ((("la", 1, "zu"), ("mi",), ("mo", "mu")), (("a",), ("zu", "b")))
        state = ((1, 0), ((0, 0, 1),))
        self.assertEqual(find_word(book, state, "mi", 1), 3)
        self.assertEqual(find_word(book, state, "mu", 1), 5)
        self.assertEqual(find_word(book, state, "la", 1), 6)
        self.assertEqual(find_word(book, state, "b", 1), 8)
        self.assertIsNone(find_word(book, state, "bu", 1))

    def test_bad_numbers(self):
        for state in (initial_state(SONG), MIDDLE):
            for word in ("la", "nowhere"):
                for number in (0, -1, MOST + 1):
                    with self.subTest(state=state, word=word, number=number):
                        self.assertRaises(BadCount, find_word, SONG, state, word, number)

    def test_tower(self):
        book = tower()
        for at, letter in enumerate("abcd"):
            self.assertEqual(find_word(book, initial_state(book), letter, 1), at + 1)
            self.assertEqual(find_word(book, initial_state(book), letter, MOST), 4 * (MOST - 1) + at + 1)

    def test_sieve(self):
        book = sieve()
        start = initial_state(book)
        self.assertEqual(find_word(book, start, "y", 1), 4 ** 59)
        self.assertEqual(find_word(book, start, "y", MOST), MOST * 4 ** 59)
        self.assertEqual(find_word(book, start, "x", MOST), MOST)

    def test_positions_lead_to_the_word(self):
        book = thicket()
        state = advance(book, initial_state(book), 5 * 10 ** 17)
        for word in "abcdpqrs":
            for number in (1, 2, 10 ** 6, 10 ** 15):
                position = find_word(book, state, word, number)
                if position <= MOST:
                    self.assertEqual(word_at(book, state, position)[0], word)
                    self.assertEqual(count_words(book, state, position)[0][word], number)


class FindStartTest(unittest.TestCase):
    def test_first_later_and_last(self):
        start = initial_state(SONG)
        self.assertEqual([find_start(SONG, start, 0, number) for number in (1, 2, 3)], [0, 2, 4])
        self.assertEqual([find_start(SONG, start, 1, number) for number in (1, 2, 3, 4)], [1, 2, 5, 6])
        self.assertEqual(find_start(SONG, start, 0, MOST), 2 * (MOST - 1))
        self.assertEqual(find_start(SONG, start, 1, MOST), 4 * (MOST // 2 - 1) + 2)

    def test_in_the_middle(self):
        # The verses on the path have started before the first word.
        self.assertEqual([find_start(SONG, MIDDLE, 0, number) for number in (1, 2)], [1, 3])
        self.assertEqual([find_start(SONG, MIDDLE, 1, number) for number in (1, 2)], [2, 3])
        self.assertEqual(find_start(SONG, ((1, 0), ((0, 0, 1),)), 1, 1), 0)

    def test_refrain_until_the_song_ends(self):
        book = ((("la", 1, 2), ("mi",), (2, "mu")), (("a", "b"),), (("c",),))
        state = ((1, 0, 0), ((0, 0, 1), (1, 0, 1)))
        self.assertEqual([find_start(book, state, 2, number) for number in (1, 2, 3)], [1, 3, 8])
        self.assertEqual([find_start(book, state, 1, number) for number in (1, 2)], [6, 13])

    def test_refrains_that_never_start(self):
        for state in (initial_state(NESTED), ((2, 2, 0, 0), ((0, 1, 0), (1, 1, 2)))):
            for number in (1, MOST):
                self.assertIsNone(find_start(NESTED, state, 2, number))

    def test_bad_refrains(self):
        for state in (initial_state(SONG), MIDDLE):
            for refrain in (-1, 2, 60):
                for number in (1, MOST, 0, -1, MOST + 1):
                    with self.subTest(state=state, refrain=refrain, number=number):
                        self.assertRaises(BadRefrain, find_start, SONG, state, refrain, number)

    def test_bad_numbers(self):
        for refrain in (0, 1, 2, 3):
            for number in (0, -1, MOST + 1):
                with self.subTest(refrain=refrain, number=number):
                    self.assertRaises(BadCount, find_start, NESTED, initial_state(NESTED), refrain, number)

    def test_tower(self):
        book = tower()
        start = initial_state(book)
        self.assertEqual([find_start(book, start, refrain, 1) for refrain in range(60)], [0] * 60)
        self.assertEqual([find_start(book, start, refrain, 2) for refrain in (0, 1, 58)], [6 ** 59, 6 ** 58, 6])
        self.assertEqual(find_start(book, start, 0, MOST), (MOST - 1) * 6 ** 59)
        self.assertEqual(find_start(book, start, 30, MOST), (MOST - 1) * 6 ** 29)
        self.assertEqual(find_start(book, start, 59, MOST), MOST - 1)

    def test_sieve(self):
        book = sieve()
        start = initial_state(book)
        self.assertEqual([find_start(book, start, refrain, 1) for refrain in (0, 1, 2)], [0, 3, 15])
        self.assertEqual(find_start(book, start, 59, 2), 2 * 4 ** 59 - 1)
        self.assertEqual(find_start(book, start, 59, MOST), MOST * 4 ** 59 - 1)

    def test_starts_are_counted(self):
        book = thicket()
        state = advance(book, initial_state(book), 5 * 10 ** 17)
        for refrain in (20, 40, 58, 59):
            for number in (1, 2, 1000, 10 ** 15):
                before = find_start(book, state, refrain, number)
                if before < MOST:
                    self.assertLess(sum(count_words(book, state, before)[1][refrain]), number)
                    self.assertGreaterEqual(sum(count_words(book, state, before + 1)[1][refrain]), number)


class OrderOfErrorsTest(unittest.TestCase):
    def test_book_first(self):
        for state in (BAD_STATE, ((0,), ())):
            for call in (word_at, advance, count_words):
                self.assertRaises(BadBook, call, BAD_BOOK, state, -1)
            self.assertRaises(BadBook, find_word, BAD_BOOK, state, "a", 0)
            self.assertRaises(BadBook, find_start, BAD_BOOK, state, -1, 0)

    def test_then_the_state(self):
        for call in (word_at, advance, count_words):
            self.assertRaises(BadState, call, SONG, BAD_STATE, -1)
            self.assertRaises(BadState, call, SONG, BAD_STATE, MOST + 1)
        self.assertRaises(BadState, find_word, SONG, BAD_STATE, "a", 0)
        self.assertRaises(BadState, find_start, SONG, BAD_STATE, -1, 0)
        self.assertRaises(BadState, find_start, SONG, BAD_STATE, 1, 0)

    def test_then_the_refrain_then_the_number(self):
        self.assertRaises(BadRefrain, find_start, SONG, MIDDLE, 2, 0)
        self.assertRaises(BadCount, find_start, SONG, MIDDLE, 1, 0)


if __name__ == "__main__":
    unittest.main()
