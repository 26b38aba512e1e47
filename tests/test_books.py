"""Point 2: books."""

import unittest

from sungbyturns.books import reachable_refrains
from sungbyturns.errors import BadBook
from tests.sample_books import NESTED, SONG, sieve, thicket, tower

FINE = (("a",),)


class ValidBooksTest(unittest.TestCase):
    def check(self, book, reached):
        self.assertEqual(reachable_refrains(book), reached)

    def test_smallest_book(self):
        self.check(((("a",),),), [0])

    def test_most_of_everything(self):
        words = ("a", "z", "abcdefgh", "qrstuvwx", "mm", "n")
        self.check((((1,) * 6, words, words, words),) + ((words,) * 4,) * 59, [0, 1])

    def test_sixty_refrains(self):
        for book in (tower(), thicket(), sieve()):
            self.check(book, list(range(60)))

    def test_unreachable_refrains(self):
        self.check(SONG, [0, 1])
        self.check(NESTED, [0, 1, 3])
        self.check((FINE, ((2,),), ((3,),), FINE), [0])
        self.check((FINE,) * 60, [0])

    def test_reached_through_a_later_verse_and_item(self):
        self.check(((("a",), ("b", "c", 3)), FINE, FINE, (("a", 4),), FINE), [0, 3, 4])

    def test_ascending_order_without_repetition(self):
        self.check((((3, 1, 3, 2), (2, 1)), ((3,),), ((3,),), FINE), [0, 1, 2, 3])


class BadBooksTest(unittest.TestCase):
    def check(self, book, refrain, verse):
        with self.assertRaises(BadBook) as caught:
            reachable_refrains(book)
        self.assertEqual((caught.exception.refrain, caught.exception.verse), (refrain, verse))

    def test_empty_book(self):
        self.check((), 0, -1)

    def test_sixty_one_refrains(self):
        self.check((FINE,) * 61, 60, -1)
        self.check((FINE,) * 70, 60, -1)
        self.check((FINE,) * 60 + ((),), 60, -1)
        self.check((FINE,) * 60 + ((("A",),),), 60, -1)
        # The number 60 is that of a refrain here, if one too many.
        self.check((((60,),),) + (FINE,) * 60, 60, -1)

    def test_sixty_one_refrains_after_another_defect(self):
        self.check((FINE,) * 59 + ((("a",), ("B",)), FINE), 59, 1)

    def test_number_of_verses(self):
        self.check(((),), 0, -1)
        self.check((FINE, (), FINE), 1, -1)
        self.check((FINE * 5,), 0, -1)
        self.check((FINE, FINE, FINE * 5), 2, -1)

    def test_number_of_verses_comes_before_the_verses(self):
        self.check(((("A",),) * 5,), 0, -1)

    def test_number_of_items(self):
        self.check((((),),), 0, 0)
        self.check((FINE, (("a",), ("a",), ())), 1, 2)
        self.check(((("a",) * 7,),), 0, 0)
        self.check((FINE, (("a",), (2,) * 7), FINE), 1, 1)

    def test_words(self):
        wrong = ("", "abcdefghi", "A", "aB", "a b", " a", "a1", "1", "a-b", "a.", "{", "`", "é", "aé", "ß", "ａ", "a\n")
        for word in wrong:
            with self.subTest(word=word):
                self.check((((word,),),), 0, 0)
                self.check((FINE, (("a",), ("a", "b", word), ("a",))), 1, 1)

    def test_refrain_that_is_not_greater(self):
        self.check((((0,),),), 0, 0)
        self.check((FINE, (("a",), ("b", 1)), FINE), 1, 1)
        self.check((FINE, FINE, (("a", 1),)), 2, 0)
        self.check((FINE, FINE, ((0, "a"),)), 2, 0)
        self.check((FINE, (("a",), (-1,))), 1, 1)

    def test_refrain_beyond_the_last_one(self):
        self.check((((1,),),), 0, 0)
        self.check((((1,), ("a", 2)), FINE), 0, 1)
        self.check((FINE, (("a",), ("a",), (2,))), 1, 2)
        self.check((((60,),),) + (FINE,) * 59, 0, 0)

    def test_first_of_two_defects(self):
        self.check((FINE, (("a",), ("B",), ()), ()), 1, 1)
        self.check((FINE, (("a",), (), ("B",)), (("C",),)), 1, 1)
        self.check((FINE, (), (("B",),)), 1, -1)
        self.check((FINE, (("a",), (1,)), ()), 1, 1)

    def test_defect_where_no_song_leads(self):
        self.check((FINE, (("",),)), 1, 0)


if __name__ == "__main__":
    unittest.main()
