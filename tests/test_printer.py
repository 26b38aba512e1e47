"""Point 20: books as sources."""

import random
import unittest

from sungbyturns.books import reachable_refrains
from sungbyturns.compiler import compile_source
from sungbyturns.errors import BadBook
from sungbyturns.printer import to_source
from sungbyturns.simplifying import simplify
from tests.sample_books import NESTED, SONG, medley, random_book, repetitive_book, sieve, thicket, tower


def chain(size):
    """A book in which each refrain sings the next one."""
    return tuple(((number + 1,),) for number in range(size - 1)) + ((("x",),),)


def without_silent_refrains(book):
    kept = reachable_refrains(book)
    return tuple(
        tuple(tuple(item if isinstance(item, str) else kept.index(item) for item in verse) for verse in book[number])
        for number in kept
    )


def names_of(source):
    return [line.split(" = ")[0] for line in source.split("\n")]


class PrinterTest(unittest.TestCase):
    def test_lines(self):
        self.assertEqual(to_source(((("a",),),)), "A = a;")
        self.assertEqual(to_source(SONG), "A = la B / B lu;\nB = a / b / c;")
        verse = " ".join(["abcdefgh"] * 6)
        self.assertEqual(to_source(((("abcdefgh",) * 6,) * 4,)), f"A = {verse} / {verse} / {verse} / {verse};")

    def test_refrains_that_are_never_sung(self):
        self.assertEqual(
            to_source(NESTED), "A = do B re / B D B / mi;\nB = D fa / sol D D / fa;\nD = x / y z;"
        )
        book = ((("a", 3),), (("b", 2),), (("c",),), (("d",),), (("e", 5),), (("f",),))
        self.assertEqual(to_source(book), "A = a D;\nD = d;")
        self.assertEqual(compile_source(to_source(book)), ((("a", 1),), (("d",),)))
        # Its only caller is never sung.
        book = ((("a",),), ((2,),), (("c",),))
        self.assertEqual(to_source(book), "A = a;")

    def test_names(self):
        letters = "ABCDEFGHIJKLMNOPQRSTUVWXYZ"
        names = list(letters) + [letter + "a" for letter in letters] + [letter + "b" for letter in letters]
        for size in (1, 2, 26, 27, 28, 52, 53, 54, 60):
            source = to_source(chain(size))
            self.assertEqual(names_of(source), names[:size])
            self.assertEqual(compile_source(source), chain(size))
        lines = to_source(chain(60)).split("\n")
        self.assertEqual(lines[25:28], ["Z = Aa;", "Aa = Ba;", "Ba = Ca;"])
        self.assertEqual(lines[51:54], ["Za = Ab;", "Ab = Bb;", "Bb = Cb;"])
        self.assertEqual(lines[59], "Hb = x;")

    def test_names_keep_the_numbers(self):
        # Of the refrains 1 to 58 none is sung, but 59 keeps its name.
        book = (((59,),),) + chain(60)[1:]
        self.assertEqual(to_source(book), "A = Hb;\nHb = x;")

    def test_compile_and_print_again(self):
        chance = random.Random(20)
        books = [make() for make in (thicket, tower, sieve, medley)] + [SONG, NESTED]
        books += [random_book(chance) for _ in range(300)] + [repetitive_book(chance) for _ in range(300)]
        for book in books:
            with self.subTest(book=book):
                source = to_source(book)
                again = compile_source(source)
                self.assertEqual(again, without_silent_refrains(book))
                self.assertEqual(compile_source(to_source(again)), again)
                if again == book:
                    self.assertEqual(to_source(again), source)
                self.assertEqual(simplify(again, (0,) * len(again))[0], simplify(book, (0,) * len(book))[0])

    def test_bad_books(self):
        for book, place in (((), (0, -1)), (((),), (0, -1)), (((("a",),), ((1,),)), (1, 0)), (chain(61), (60, -1))):
            with self.subTest(book=book), self.assertRaises(BadBook) as caught:
                to_source(book)
            self.assertEqual((caught.exception.refrain, caught.exception.verse), place)


if __name__ == "__main__":
    unittest.main()
