"""Points 11 and 12: simplifying, and comparing what two books sing."""

import random
import unittest

from sungbyturns.books import reachable_refrains
from sungbyturns.errors import BadBook, BadCount, BadState, BadTurns
from sungbyturns.periods import advance_songs, average_length, frequencies
from sungbyturns.positions import advance, count_words, word_at
from sungbyturns.simplifying import first_difference, simplify
from sungbyturns.states import initial_state, next_words
from tests.plain_singer import Record
from tests.sample_books import (
    NESTED, SONG, medley, random_book, random_state, random_turns, repetitive_book, thicket, tower,
)

MOST = 10 ** 18
BAD_BOOK = ((("a", 1),),)
BAD_STATE = ((0, 0), ((0, 0, 1),))
START = ((0, 0), ())
BAD_TURNS = ((), (0,), (0, 0, 0), (2, 0), (0, 3), (-1, 0), (0, -1))


def with_items(book, table):
    """The book with items replaced by what a dict has for them."""
    return tuple(tuple(tuple(table.get(item, item) for item in verse) for verse in verses) for verses in book)


def shortest(verses):
    return next(verses[:size] for size in (1, 2, 3, 4) if verses[:size] * (len(verses) // size) == verses)


def changes(book, turns):
    """All (book, turns) to which a rule of point 11, applied once to one refrain, leads."""
    found = []
    for number, verses in enumerate(book):
        fewer = shortest(verses)
        if fewer != verses:
            turn = turns[number] % len(fewer)
            found.append((
                book[:number] + (fewer,) + book[number + 1:],
                turns[:number] + (turn,) + turns[number + 1:],
            ))
        if number and len(verses) == len(verses[0]) == 1:
            changed = with_items(book, {number: verses[0][0]})
            if changed != book:
                found.append((changed, turns))
    kept = reachable_refrains(book)
    if len(kept) < len(book):
        table = {number: at for at, number in enumerate(kept)}
        found.append((with_items([book[number] for number in kept], table), tuple(turns[number] for number in kept)))
    return found


def simplify_step_by_step(chance, book, turns):
    """Apply rules in any order until none changes the book."""
    while True:
        found = changes(book, turns)
        if not found:
            return book, turns
        book, turns = chance.choice(found)


class SimplifyTest(unittest.TestCase):
    def check(self, book, turns, simple_book, simple_turns):
        self.assertEqual(simplify(book, turns), (simple_book, simple_turns))
        self.assertEqual(simplify(simple_book, simple_turns), (simple_book, simple_turns))

    def test_nothing_to_do(self):
        for book in (SONG, ((("a",),),), thicket(), tower(), (((1, 1),), (("a",), ("b",)))):
            turns = tuple(len(verses) - 1 for verses in book)
            self.check(book, turns, book, turns)

    def test_repetitions_of_verses(self):
        a, b, c = ("a",), ("b", "b"), ("c",)
        for verses, fewer in (
            ((a,), (a,)), ((a, a), (a,)), ((a, a, a), (a,)), ((a, a, a, a), (a,)), ((a, b, a, b), (a, b)),
            ((a, b), (a, b)), ((a, b, a), (a, b, a)), ((a, a, b), (a, a, b)), ((a, b, b, a), (a, b, b, a)),
            ((a, a, b, b), (a, a, b, b)), ((a, b, c, a), (a, b, c, a)), ((a, b, a, c), (a, b, a, c)),
            ((a, a, a, b), (a, a, a, b)), ((b, a, b, a), (b, a)),
        ):
            for turn in range(len(verses)):
                self.check((verses,), (turn,), (fewer,), (turn % len(fewer),))

    def test_repetitions_in_later_refrains(self):
        book = (((1, "x"),), (("a",), ("b",), ("a",), ("b",)))
        self.check(book, (0, 3), (((1, "x"),), (("a",), ("b",))), (0, 1))

    def test_single_items(self):
        self.check((((1,),), (("a",),)), (0, 0), ((("a",),),), (0,))
        self.check((((1, 1, "b", 1),), (("a",),)), (0, 0), ((("a", "a", "b", "a"),),), (0,))
        # A chain of them, through a refrain that stays.
        book = (((1, 3), ("x",)), ((2,),), ((3,),), ((4,), ("b",)), ((5,),), (("c",),))
        self.check(book, (1, 0, 0, 1, 0, 0), (((1, 1), ("x",)), (("c",), ("b",))), (1, 1))

    def test_refrain_0_stays(self):
        self.check(((("a",),),), (0,), ((("a",),),), (0,))
        self.check((((1,),), (("a",), ("b",))), (0, 1), (((1,),), (("a",), ("b",))), (0, 1))
        self.check((((1,), (1,)), (("a",), ("b",))), (1, 1), (((1,),), (("a",), ("b",))), (0, 1))

    def test_single_verse_of_several_items_stays(self):
        book = (((1, 1),), (("a", "b"),))
        self.check(book, (0, 0), book, (0, 0))

    def test_several_verses_of_single_items_stay(self):
        book = (((1,),), (("a",), ("b",)))
        self.check(book, (0, 0), book, (0, 0))

    def test_equal_refrains_stay(self):
        book = (((1, 2),), (("a",), ("b",)), (("a",), ("b",)))
        self.check(book, (0, 1, 1), book, (0, 1, 1))

    def test_unreachable_refrains(self):
        book = ((("a", 2), (4,)), (("b",), ("c",)), (("d",), (4,)), ((4, "e"),), (("f",), ("g",), ("h",)))
        simple = ((("a", 1), (2,)), (("d",), (2,)), (("f",), ("g",), ("h",)))
        self.check(book, (1, 1, 0, 0, 2), simple, (1, 0, 2))
        self.check(NESTED, (2, 1, 0, 1), with_items(NESTED[:2] + NESTED[3:], {3: 2}), (2, 1, 1))

    def test_rules_that_lead_to_each_other(self):
        # Single items make verses equal, these leave a single item, and so on.
        book = (((1, "x"), (1, "x")), ((2,), (3,)), ((3,), (3,)), (("a",), ("a",), ("a",)))
        self.check(book, (1, 1, 1, 2), ((("a", "x"),),), (0,))
        book = (((1,), (2,), (1,), ("b",)), (("a",),), (("b",), ("b",)), (("c",),))
        self.check(book, (3, 0, 1, 0), ((("a",), ("b",)),), (1,))

    def test_verses_that_become_equal_only_elsewhere(self):
        book = (((1,), (2,)), (("a",),), (("a",), ("b",)))
        self.check(book, (0, 0, 0), ((("a",), (1,)), (("a",), ("b",))), (0, 0))

    def test_sixty_refrains(self):
        chain = tuple(((number + 1,),) * 4 for number in range(59)) + ((("a",),) * 4,)
        self.check(chain, (3,) * 60, ((("a",),),), (0,))
        self.check(tower(), (0,) * 59 + (3,), tower(), (0,) * 59 + (3,))
        book = medley()
        simple, turns = simplify(book, (0,) * 60)
        self.assertEqual(len(simple), len(reachable_refrains(book)))
        self.assertEqual(average_length(simple), average_length(book))
        self.assertEqual(frequencies(simple), frequencies(book))
        self.assertEqual(advance_songs(simple, turns, MOST)[0], advance_songs(book, (0,) * 60, MOST)[0])

    def test_bad_turns(self):
        for turns in BAD_TURNS:
            with self.subTest(turns=turns):
                self.assertRaises(BadTurns, simplify, SONG, turns)
        # Also for refrains that are removed.
        self.assertRaises(BadTurns, simplify, NESTED, (0, 0, 1, 0))

    def test_bad_book(self):
        for turns in ((0,), (), (7,)):
            with self.assertRaises(BadBook) as caught:
                simplify(BAD_BOOK, turns)
            self.assertEqual((caught.exception.refrain, caught.exception.verse), (0, 0))
        self.assertRaises(BadBook, simplify, (), ())


class RandomSimplifyTest(unittest.TestCase):
    def places(self):
        chance = random.Random(41)
        for at in range(500):
            book = repetitive_book(chance) if at % 5 else random_book(chance)
            yield chance, book, random_turns(chance, book)

    def test_rules_in_any_order(self):
        smaller = 0
        for chance, book, turns in self.places():
            with self.subTest(book=book, turns=turns):
                simple = simplify(book, turns)
                smaller += len(simple[0]) < len(book)
                for _ in range(3):
                    self.assertEqual(simple, simplify_step_by_step(chance, book, turns))
                self.assertEqual(changes(*simple), [])
                self.assertEqual(simplify(*simple), simple)
        self.assertGreater(smaller, 200)

    def test_same_words_forever(self):
        for _, book, turns in self.places():
            simple_book, simple_turns = simplify(book, turns)
            with self.subTest(book=book, turns=turns):
                sung = [word for word, _ in Record(book, (turns, ()), 150).words]
                again = [word for word, _ in Record(simple_book, (simple_turns, ()), 150).words]
                self.assertEqual(sung, again)
                self.assertIsNone(first_difference(book, (turns, ()), simple_book, (simple_turns, ()), 400))
                for count in (10 ** 9 + 7, MOST):
                    far = count_words(book, (turns, ()), count)[0]
                    self.assertEqual(count_words(simple_book, (simple_turns, ()), count)[0], far)
                    word = word_at(book, (turns, ()), count)[0]
                    self.assertEqual(word_at(simple_book, (simple_turns, ()), count)[0], word)


class FirstDifferenceTest(unittest.TestCase):
    def test_word_by_word(self):
        chance = random.Random(42)
        seen = {}
        for _ in range(300):
            book, other = random_book(chance), random_book(chance)
            if chance.random() < 0.5:
                other = book
            state, other_state = random_state(chance, book), random_state(chance, other)
            pairs = zip(Record(book, state, 60).words, Record(other, other_state, 60).words)
            unlike = [at + 1 for at, (one, two) in enumerate(pairs) if one[0] != two[0]]
            expected = unlike[0] if unlike else None
            seen[expected] = True
            with self.subTest(book=book, state=state, other=other, other_state=other_state):
                self.assertEqual(first_difference(book, state, other, other_state, 60), expected)
                self.assertEqual(first_difference(other, other_state, book, state, 60), expected)
                if unlike:
                    found = [first_difference(book, state, other, other_state, unlike[0] + k) for k in (-1, 0)]
                    self.assertEqual(found, [None, unlike[0]])
        self.assertLessEqual({None, 1, 2, 3, 4}, set(seen))

    def test_counts(self):
        # The first 4999 words are equal.
        book = ((("a",),),)
        other, state = self.late(4999)
        for count in (0, 1, 200, 4998):
            self.assertIsNone(first_difference(book, initial_state(book), other, state, count))
        self.assertIsNone(first_difference(book, initial_state(book), other, state, 4999))
        self.assertEqual(first_difference(book, initial_state(book), other, state, 5000), 5000)
        other, state = self.late(5000)
        self.assertIsNone(first_difference(book, initial_state(book), other, state, 5000))
        self.assertIsNone(first_difference(other, state, book, initial_state(book), 5000))

    def late(self, count):
        """A book and a state in which the word y comes after so many words a."""
        rows = [(("a",), ("a",), ("a",), (number + 1,)) for number in range(8)]
        book = tuple(rows) + ((("y",),),)
        return book, advance(book, initial_state(book), 4 ** 8 - 1 - count)

    def test_count_0(self):
        self.assertIsNone(first_difference(((("a",),),), ((0,), ()), ((("b",),),), ((0,), ()), 0))
        self.assertEqual(first_difference(((("a",),),), ((0,), ()), ((("b",),),), ((0,), ()), 1), 1)

    def test_words_count_and_not_paths(self):
        book = (((1, 1),), (("a",), ("b",)))
        self.assertIsNone(first_difference(book, START, ((("a", "b"),),), ((0,), ()), 5000))
        self.assertIsNone(first_difference(book, START, book, START, 5000))
        # Half a song later the words differ, but a whole song later they don't.
        self.assertEqual(first_difference(book, START, book, ((0, 1), ((0, 0, 1),)), 5000), 1)
        self.assertIsNone(first_difference(book, START, book, advance(book, START, 2), 5000))

    def test_in_the_middle_of_songs(self):
        state, other = ((1, 2), ((0, 0, 1),)), ((0, 2), ((0, 1, 1),))
        self.assertEqual([word for word, _ in next_words(SONG, state, 2)], ["c", "a"])
        self.assertEqual(first_difference(SONG, state, SONG, other, 10), 1)
        self.assertEqual(first_difference(SONG, ((0, 2), ((0, 1, 1),)), SONG, ((0, 0), ((0, 1, 1),)), 10), 3)

    def test_large_books(self):
        for book in (tower(), thicket(), medley()):
            state = advance(book, initial_state(book), MOST)
            self.assertIsNone(first_difference(book, state, book, state, 5000))
            changed = book[:-1] + ((("a",), ("b",), ("c",), ("e",)),)
            words = [word for word, _ in Record(book, state, 5000).words]
            self.assertEqual(first_difference(book, state, changed, state, 5000), words.index("d") + 1)

    def test_bad_counts(self):
        for count in (-1, 5001, -5000, MOST):
            self.assertRaises(BadCount, first_difference, SONG, START, SONG, START, count)

    def test_bad_states(self):
        for count in (0, 9, -1, 5001):
            self.assertRaises(BadState, first_difference, SONG, BAD_STATE, SONG, START, count)
            self.assertRaises(BadState, first_difference, SONG, START, SONG, BAD_STATE, count)
            # A state of the one book is not one of the other.
            self.assertRaises(BadState, first_difference, SONG, START, NESTED, START, count)
            self.assertRaises(BadState, first_difference, NESTED, START, SONG, START, count)

    def test_bad_books(self):
        worse = SONG + ((),)
        for count in (0, 9, -1, 5001):
            for state in (START, BAD_STATE):
                self.check_book((BAD_BOOK, state, worse, BAD_STATE, count), (0, 0))
                self.check_book((worse, state, SONG, START, count), (2, -1))
                self.check_book((SONG, START, worse, state, count), (2, -1))

    def test_parameters_in_their_order(self):
        self.assertRaises(BadState, first_difference, SONG, BAD_STATE, BAD_BOOK, START, -1)

    def check_book(self, arguments, place):
        with self.assertRaises(BadBook) as caught:
            first_difference(*arguments)
        self.assertEqual((caught.exception.refrain, caught.exception.verse), place)


if __name__ == "__main__":
    unittest.main()
