"""Points 9 and 10: certificates."""

import itertools
import random
import unittest
from fractions import Fraction

from sungbyturns.certificates import check_certificate, count_by_certificate, make_certificate, max_deviation
from sungbyturns.errors import BadBook, BadCertificate, BadCount, BadTurns
from sungbyturns.periods import advance_songs, frequencies
from sungbyturns.positions import count_words
from tests.plain_singer import sing_songs
from tests.sample_books import NESTED, SONG, medley, random_book, random_turns, sieve, thicket, tower

MOST = 10 ** 18
BAD_BOOK = ((("a", 1),),)
LARGE = (tower(), thicket(), sieve(), medley())
BAD_TURNS = ((), (0,), (0, 0, 0), (2, 0), (0, 3), (-1, 0), (0, -1))


def pair(fraction):
    return fraction.numerator, fraction.denominator


def violated(book, word, certificate):
    """All equations that do not hold, by Python's own fractions."""
    rates = [Fraction(*rate) for rate in certificate[0]]
    offsets = [[Fraction(*offset) for offset in row] for row in certificate[1]]
    found = []
    for refrain, verses in enumerate(book):
        for verse, items in enumerate(verses):
            value = sum(rates[item] if isinstance(item, int) else Fraction(item == word) for item in items)
            following = offsets[refrain][(verse + 1) % len(verses)]
            if value != rates[refrain] + following - offsets[refrain][verse]:
                found.append((refrain, verse))
    return found


def changed(certificate, refrain, verse, fraction):
    """The certificate with another rate (verse is None) or offset."""
    rates, offsets = certificate
    if verse is None:
        return rates[:refrain] + (fraction,) + rates[refrain + 1:], offsets
    row = offsets[refrain][:verse] + (fraction,) + offsets[refrain][verse + 1:]
    return rates, offsets[:refrain] + (row,) + offsets[refrain + 1:]


def fractions_of(certificate):
    rates, offsets = certificate
    return list(rates) + [offset for row in offsets for offset in row]


class MakeCertificateTest(unittest.TestCase):
    def check(self, book, word):
        certificate = make_certificate(book, word)
        self.assertEqual(violated(book, word, certificate), [])
        self.assertIsNone(check_certificate(book, word, certificate))
        rates, offsets = certificate
        self.assertEqual([type(part) for part in (certificate, rates, offsets)], [tuple] * 3)
        self.assertEqual(len(rates), len(book))
        self.assertEqual([len(row) for row in offsets], [len(verses) for verses in book])
        self.assertEqual([row[0] for row in offsets], [(0, 1)] * len(book))
        for fraction in fractions_of(certificate):
            # In lowest terms, and a tuple of two integers.
            self.assertEqual(repr(fraction), repr(pair(Fraction(*fraction))))

    def test_random_books(self):
        chance = random.Random(31)
        for _ in range(150):
            book = random_book(chance)
            for word in "abcde":
                with self.subTest(book=book, word=word):
                    self.check(book, word)

    def test_large_books(self):
        for book in LARGE:
            for word in ("a", "d", "p", "q", "rest", "x", "y", "nowhere"):
                self.check(book, word)

    def test_known_ones(self):
        self.assertEqual(make_certificate(((("a",),),), "a"), (((1, 1),), (((0, 1),),)))
        self.assertEqual(
            make_certificate((tuple((word,) * 6 for word in "abcd"),), "b"),
            (((3, 2),), (((0, 1), (-3, 2), (3, 1), (3, 2)),)),
        )
        self.assertEqual(
            make_certificate(SONG, "lu"),
            (((1, 2), (0, 1)), (((0, 1), (-1, 2)), ((0, 1), (0, 1), (0, 1)))),
        )
        rates = tuple(pair(Fraction(6 ** (59 - refrain), 4)) for refrain in range(60))
        self.assertEqual(make_certificate(tower(), "c")[0], rates)

    def test_words_that_never_occur(self):
        for word in ("nowhere", "", "A", "0"):
            rates, offsets = make_certificate(NESTED, word)
            self.assertEqual(rates, ((0, 1),) * 4)
            self.assertEqual(offsets, tuple(((0, 1),) * len(verses) for verses in NESTED))

    def test_unreachable_refrains_have_rates(self):
        rates, _ = make_certificate(NESTED, "x")
        self.assertEqual(rates[2:], ((1, 2), (1, 2)))
        rates, _ = make_certificate(NESTED, "never")
        self.assertEqual(rates, ((0, 1), (0, 1), (1, 1), (0, 1)))

    def test_rate_of_the_song_is_the_average(self):
        for book in (SONG, NESTED, medley()):
            rates = {word: Fraction(*make_certificate(book, word)[0][0]) for word in frequencies(book)}
            every = sum(rates.values())
            self.assertEqual(frequencies(book), {word: pair(rates[word] / every) for word in rates})

    def test_bad_books(self):
        for book, place in (((), (0, -1)), (BAD_BOOK, (0, 0)), ((SONG[1],) * 61, (60, -1))):
            for call in (make_certificate, max_deviation):
                with self.assertRaises(BadBook) as caught:
                    call(book, "a")
                self.assertEqual((caught.exception.refrain, caught.exception.verse), place)


class CheckCertificateTest(unittest.TestCase):
    def check(self, book, word, certificate):
        found = violated(book, word, certificate)
        self.assertEqual(check_certificate(book, word, certificate), found[0] if found else None)
        return found

    def test_one_fraction_is_wrong(self):
        for book in (SONG, NESTED, medley(12)):
            certificate = make_certificate(book, "a")
            for refrain, verses in enumerate(book):
                for verse in [None] + list(range(1, len(verses))):
                    for wrong in ((7, 5), (-7, 5), (10 ** 40, 3)):
                        self.assertTrue(self.check(book, "a", changed(certificate, refrain, verse, wrong)))

    def test_last_equation_of_the_last_refrain(self):
        book = ((("a",),), (("a",),), (("b",), ("b",), ("a", "a")))
        zero = (0, 1)
        wrong = (((1, 1), (1, 1), zero), ((zero,), (zero,), (zero, zero, zero)))
        self.assertEqual(check_certificate(book, "a", wrong), (2, 2))

    def test_certificates_of_other_words(self):
        chance = random.Random(32)
        seen = 0
        for _ in range(100):
            book = random_book(chance)
            for word, other in itertools.permutations("abc", 2):
                seen += bool(self.check(book, word, make_certificate(book, other)))
        self.assertGreater(seen, 200)

    def test_first_of_several(self):
        zeros = (((0, 1),) * 4, tuple(((0, 1),) * len(verses) for verses in NESTED))
        self.assertEqual(check_certificate(NESTED, "do", zeros), (0, 0))
        self.assertEqual(check_certificate(NESTED, "mi", zeros), (0, 2))
        self.assertEqual(check_certificate(NESTED, "fa", zeros), (1, 0))
        self.assertEqual(check_certificate(NESTED, "sol", zeros), (1, 1))
        self.assertEqual(check_certificate(NESTED, "never", zeros), (2, 0))
        self.assertEqual(check_certificate(NESTED, "z", zeros), (3, 1))
        self.assertIsNone(check_certificate(NESTED, "nowhere", zeros))

    def test_certificates_of_other_books_of_the_same_shape(self):
        other = ((("la", 1), (1, "a")), (("a",), ("b",), ("c",)))
        self.assertEqual(check_certificate(SONG, "a", make_certificate(other, "a")), (0, 1))

    def test_large_books(self):
        for book in LARGE:
            certificate = make_certificate(book, "a")
            self.check(book, "a", changed(certificate, 59, None, (1, 3)))
            self.check(book, "a", changed(certificate, 30, None, (1, 3)))

    def test_wrong_word_is_no_error(self):
        certificate = make_certificate(SONG, "a")
        self.assertEqual(check_certificate(SONG, "nowhere", certificate), (1, 0))


GOOD = make_certificate(SONG, "a")
ROW_0, ROW_1 = GOOD[1]
NOT_FRACTIONS = (
    (0, 2), (2, 4), (6, 3), (-2, 4), (0, -1), (1, -3), (-1, -3), (1, 0), (0, 0), (), (1,), (1, 3, 1), [1, 3],
    1, 0, None, "1", "13", (None, 1), (1, None), ("1", "3"), ((1, 3), 1), (1.0, 3), (1, 3.0), 0.5, Fraction(1, 3),
    (True, 3), (1, True), (False, 1),
)
MALFORMED = (
    (), ((), ()), GOOD[:1], GOOD + ((),), GOOD[::-1], list(GOOD), None, 0, "ab", {}, GOOD[0], GOOD[1],
    (list(GOOD[0]), GOOD[1]), (GOOD[0], list(GOOD[1])), (GOOD[0], (list(ROW_0), ROW_1)),
    (GOOD[0][:1], GOOD[1]), (GOOD[0] * 2, GOOD[1]), ((), GOOD[1]), (None, GOOD[1]), (GOOD[0], None), (GOOD[0], ()),
    (GOOD[0], GOOD[1][:1]), (GOOD[0], GOOD[1] + (ROW_1,)), (GOOD[0], (ROW_1, ROW_0)), (GOOD[0], ((), ROW_1)),
    (GOOD[0], (ROW_0, ROW_1[:2])), (GOOD[0], (ROW_0, ROW_1 + ((0, 1),))), (GOOD[0], (ROW_0, None)),
    # The offset of verse 0 is zero.
    changed(GOOD, 0, 0, (1, 1)), changed(GOOD, 1, 0, (1, 3)), changed(GOOD, 1, 0, (-1, 1)),
    (GOOD[0], (ROW_0, tuple(pair(Fraction(*offset) + 1) for offset in ROW_1))),
)


class StructureTest(unittest.TestCase):
    def check(self, certificate):
        with self.subTest(certificate=certificate):
            self.assertRaises(BadCertificate, check_certificate, SONG, "a", certificate)
            self.assertRaises(BadCertificate, count_by_certificate, SONG, "a", certificate, (0, 0), (1, 2), 5)

    def test_other_structures(self):
        for certificate in MALFORMED:
            self.check(certificate)

    def test_fractions(self):
        for wrong in NOT_FRACTIONS:
            for refrain, verse in ((0, None), (1, None), (0, 1), (1, 1), (1, 2), (0, 0), (1, 0)):
                self.check(changed(GOOD, refrain, verse, wrong))

    def test_structure_comes_before_the_equations(self):
        wrong = changed(changed(GOOD, 0, None, (5, 1)), 1, 2, (2, 6))
        self.assertRaises(BadCertificate, check_certificate, SONG, "a", wrong)

    def test_certificates_of_other_books(self):
        for other in (NESTED, tower(), (SONG[1],), (SONG[1],) * 2, SONG[:1] + (SONG[1][:2],), SONG + (SONG[1],)):
            for word in ("a", "nowhere"):
                self.assertRaises(BadCertificate, check_certificate, SONG, word, make_certificate(other, word))

    def test_unreachable_refrains_count(self):
        book = ((("a",),), (("b",),))
        self.assertRaises(BadCertificate, check_certificate, book, "a", (((1, 1),), (((0, 1),),)))
        wrong = (((1, 1), (1, 1)), (((0, 1),), ((0, 1),)))
        self.assertEqual(check_certificate(book, "a", wrong), (1, 0))

    def test_bad_book_first(self):
        for certificate in (GOOD, (), make_certificate(((("a",),),), "a")):
            self.assertRaises(BadBook, check_certificate, BAD_BOOK, "a", certificate)
            self.assertRaises(BadBook, count_by_certificate, BAD_BOOK, "a", certificate, (9,), (9,), -1)


class CountByCertificateTest(unittest.TestCase):
    def test_song_by_song(self):
        chance = random.Random(33)
        for _ in range(60):
            book = random_book(chance)
            turns = random_turns(chance, book)
            for songs in (0, 1, 2, 7, 20):
                words, after = sing_songs(book, turns, songs)
                for word in "abcde":
                    certificate = make_certificate(book, word)
                    counted = count_by_certificate(book, word, certificate, turns, after, songs)
                    self.assertEqual(counted, (words.count(word), 1))

    def test_far(self):
        for book in (SONG, NESTED, sieve()):
            turns = (0,) * len(book)
            for songs in (200, 5000, 10 ** 17):
                every, after = advance_songs(book, turns, songs)
                words, _ = count_words(book, (turns, ()), every)
                for word in words:
                    certificate = make_certificate(book, word)
                    counted = count_by_certificate(book, word, certificate, turns, after, songs)
                    self.assertEqual(counted, (words[word], 1))

    def test_all_words_of_large_books(self):
        chance = random.Random(34)
        for book in LARGE:
            turns = random_turns(chance, book)
            for songs in (1, MOST):
                every, after = advance_songs(book, turns, songs)
                counted = [count_by_certificate(book, word, make_certificate(book, word), turns, after, songs)
                           for word in frequencies(book)]
                self.assertEqual({denominator for _, denominator in counted}, {1})
                self.assertEqual(sum(numerator for numerator, _ in counted), every)

    def test_any_final_turns(self):
        # The rule is followed, also where the songs do not lead to these turns.
        rates, offsets = make_certificate(NESTED, "x")
        for turns in ((0, 0, 0, 0), (2, 1, 0, 1)):
            for final in ((0, 0, 0, 0), (1, 2, 0, 1), (2, 0, 0, 0)):
                for songs in (0, 1, 3, MOST):
                    expected = songs * Fraction(*rates[0])
                    for row, start, end in zip(offsets, turns, final):
                        expected += Fraction(*row[end]) - Fraction(*row[start])
                    counted = count_by_certificate(NESTED, "x", (rates, offsets), turns, final, songs)
                    self.assertEqual(counted, pair(expected))

    def test_some(self):
        self.assertEqual(count_by_certificate(SONG, "a", GOOD, (0, 0), (0, 0), 0), (0, 1))
        self.assertEqual(count_by_certificate(SONG, "a", GOOD, (0, 0), (0, 0), 6), (2, 1))
        self.assertEqual(count_by_certificate(SONG, "a", GOOD, (0, 0), (1, 1), 0), (2, 3))
        self.assertEqual(count_by_certificate(SONG, "a", GOOD, (0, 1), (0, 0), 0), (-2, 3))
        self.assertEqual(count_by_certificate(SONG, "a", GOOD, (0, 0), (0, 1), MOST), (MOST // 3 + 1, 1))

    def test_certificates_that_are_not_valid(self):
        for certificate in (make_certificate(SONG, "b"), changed(GOOD, 0, None, (1, 2)), changed(GOOD, 1, 2, (1, 2))):
            for turns, final, songs in (((0, 0), (1, 2), 5), ((), (), -1), ((0, 0), (0, 3), MOST + 1)):
                with self.assertRaises(BadCertificate):
                    count_by_certificate(SONG, "a", certificate, turns, final, songs)

    def test_bad_turns(self):
        for turns in BAD_TURNS:
            for songs in (0, 5, -1, MOST + 1):
                with self.subTest(turns=turns, songs=songs):
                    self.assertRaises(BadTurns, count_by_certificate, SONG, "a", GOOD, turns, (0, 0), songs)
                    self.assertRaises(BadTurns, count_by_certificate, SONG, "a", GOOD, (0, 0), turns, songs)

    def test_bad_counts(self):
        for songs in (-1, MOST + 1, -MOST):
            self.assertRaises(BadCount, count_by_certificate, SONG, "a", GOOD, (0, 0), (0, 0), songs)


class MaxDeviationTest(unittest.TestCase):
    def expected(self, book, word):
        total = Fraction(0)
        for row in make_certificate(book, word)[1]:
            offsets = [Fraction(*offset) for offset in row]
            total += max(offsets) - min(offsets)
        return pair(total)

    def test_sum_of_spreads(self):
        chance = random.Random(35)
        for book in LARGE + (SONG, NESTED) + tuple(random_book(chance) for _ in range(100)):
            for word in ("a", "b", "q", "x", "la", "never", "nowhere"):
                self.assertEqual(max_deviation(book, word), self.expected(book, word))

    def test_counts_never_differ_by_more(self):
        chance = random.Random(36)
        for book in (SONG, NESTED) + tuple(random_book(chance) for _ in range(30)):
            turns = random_turns(chance, book)
            for word in ("a", "b", "la", "fa"):
                rate = Fraction(*make_certificate(book, word)[0][0])
                bound = Fraction(*max_deviation(book, word))
                for songs in range(1, 20):
                    counted = sing_songs(book, turns, songs)[0].count(word)
                    self.assertLessEqual(abs(counted - songs * rate), bound)

    def test_some(self):
        self.assertEqual(max_deviation(((("a",),),), "a"), (0, 1))
        self.assertEqual(max_deviation(SONG, "la"), (1, 2))
        self.assertEqual(max_deviation(SONG, "nowhere"), (0, 1))
        # Offsets 0, -3/2, 3, 3/2.
        self.assertEqual(max_deviation((tuple((word,) * 6 for word in "abcd"),), "b"), (9, 2))
        # Refrains that are never sung have offsets, too.
        self.assertEqual(max_deviation(((("a",),), (("a",), ("b",))), "b"), (1, 2))


if __name__ == "__main__":
    unittest.main()
