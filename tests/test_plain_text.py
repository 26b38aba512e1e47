"""Point 21: books and states as plain text."""

import random
import re
import unittest

from sungbyturns.errors import BadBook, BadText
from sungbyturns.plain_text import format_book, format_state, parse_book, parse_state
from tests.sample_books import NESTED, SONG, medley, random_book, random_state, sieve, thicket, tower

ITEM = "(?:[a-z]+|0|[1-9][0-9]?)"
NUMBER = "(?:0|[1-9][0-9]?)"
BOOK_LINE = f"{ITEM}(?: {ITEM})*(?: / {ITEM}(?: {ITEM})*)*"
STATE_LINES = (f"turns(?: {NUMBER})+", rf"path(?: {NUMBER}\.{NUMBER}\.{NUMBER})*")


def first_bad_row(text):
    """The first row of a book's text that is not formed as a line has to be, or None."""
    rows = text.split("\n")
    return next((row for row, line in enumerate(rows) if not re.fullmatch(BOOK_LINE, line)), None)


def first_bad_row_of_state(text):
    rows = text.split("\n") + ["", ""]
    for row, pattern in enumerate(STATE_LINES):
        if not re.fullmatch(pattern, rows[row]):
            return row
    return 2 if len(rows) > 4 else None


def damaged(chance, text):
    """The text with a character or two added, removed or changed."""
    for _ in range(chance.choice((1, 1, 2))):
        at = chance.randint(0, len(text))
        piece = chance.choice((" ", "\n", "/", " / ", ".", "0", "7", "a", "B", "", "turns", "\t"))
        text = text[:at] + piece + text[at + chance.choice((0, 1, 1, 3)):]
    return text


class TextCase(unittest.TestCase):
    def check_bad(self, parse, text, row):
        with self.subTest(text=text), self.assertRaises(BadText) as caught:
            parse(text)
        self.assertEqual(vars(caught.exception), {"row": row})


class BookTest(TextCase):
    def check_bad_book(self, text, refrain, verse):
        with self.subTest(text=text), self.assertRaises(BadBook) as caught:
            parse_book(text)
        self.assertEqual(vars(caught.exception), {"refrain": refrain, "verse": verse})

    def test_format(self):
        self.assertEqual(format_book(((("a",),),)), "a")
        self.assertEqual(format_book(SONG), "la 1 / 1 lu\na / b / c")
        self.assertEqual(format_book(NESTED), "do 1 re / 1 3 1 / mi\n3 fa / sol 3 3 / fa\nnever 3\nx / y z")
        self.assertEqual(format_book(tower()).split("\n")[9], "10 10 10 10 10 10")

    def test_parse(self):
        self.assertEqual(parse_book("a"), ((("a",),),))
        self.assertEqual(parse_book("la 1 / 1 lu\na / b / c"), SONG)
        for word in ("a", "z", "abcdefgh"):
            self.assertEqual(parse_book(word), (((word,),),))

    def test_there_and_back(self):
        chance = random.Random(21)
        for book in [NESTED, SONG, medley(), sieve(), thicket(), tower()] + [random_book(chance) for _ in range(200)]:
            text = format_book(book)
            self.assertEqual(parse_book(text), book)
            self.assertEqual(format_book(parse_book(text)), text)

    def test_format_of_bad_books(self):
        for book, place in (
            ((), (0, -1)), (((("a",), ()),), (0, 1)), (((("a", 0),),), (0, 0)), (tower() * 2, (60, -1)),
        ):
            with self.assertRaises(BadBook) as caught:
                format_book(book)
            self.assertEqual((caught.exception.refrain, caught.exception.verse), place)

    def test_bad_lines(self):
        for line in (
            "", " ", "/", " / ", "a ", " a", "a  b", "a /", "/ a", "a / ", " / a", "a / / b", "a /  / b", "a  / b",
            "a /  b", "a/b", "a / b /", "a // b", "A", "aB", "a1", "1a", "a,b", "a-b", "a\tb", "a\r",
            "\u00e9", "\u0661",
            "00", "01", "07", "007", "100", "999", "-1", "+1", "1.", "0x", "\u00b2",
        ):
            self.check_bad(parse_book, line, 0)
            self.check_bad(parse_book, "a 1 / 2\n" + line + "\n" + line, 1)
            self.check_bad(parse_book, line + "\na\nb", 0)

    def test_empty_lines(self):
        self.check_bad(parse_book, "", 0)
        self.check_bad(parse_book, "\n", 0)
        self.check_bad(parse_book, "a\n", 1)
        self.check_bad(parse_book, "\na", 0)
        self.check_bad(parse_book, "a\n\nb", 1)
        self.check_bad(parse_book, "a\nb\n", 2)
        self.check_bad(parse_book, "a\r\nb", 0)

    def test_lines_before_the_book(self):
        # The first line describes no valid refrain, but it is well formed.
        self.check_bad(parse_book, "0 abcdefghijkl 99\n07", 1)
        self.check_bad(parse_book, "\n".join(["a"] * 70 + ["A"]), 70)

    def test_bad_books(self):
        self.check_bad_book("a / b 1", 0, 1)
        self.check_bad_book("a / 0", 0, 1)
        self.check_bad_book("abcdefgh / abcdefghi", 0, 1)
        self.check_bad_book("a / " + "a" * 500, 0, 1)
        self.check_bad_book("a b c d e f / a b c d e f g", 0, 1)
        self.check_bad_book("1\na / b / c / d / e", 1, -1)
        self.check_bad_book("1\n1", 1, 0)
        self.check_bad_book("1 99\na", 0, 0)
        self.check_bad_book("1\n10", 1, 0)
        self.check_bad_book("\n".join(["a"] * 61), 60, -1)
        self.assertEqual(len(parse_book("\n".join(["a"] * 60))), 60)

    def test_damaged_texts(self):
        chance = random.Random(22)
        seen = {True: 0, False: 0}
        for _ in range(3000):
            text = damaged(chance, format_book(random_book(chance)))
            row = first_bad_row(text)
            seen[row is None] += 1
            if row is not None:
                self.check_bad(parse_book, text, row)
                continue
            try:
                self.assertEqual(format_book(parse_book(text)), text)
            except BadBook:
                pass
        self.assertGreater(min(seen.values()), 300)


class StateTest(TextCase):
    def test_format(self):
        self.assertEqual(format_state(((0,), ())), "turns 0\npath")
        self.assertEqual(format_state(((0, 1, 2), ((0, 0, 1), (3, 2, 1)))), "turns 0 1 2\npath 0.0.1 3.2.1")
        self.assertEqual(format_state(((3, 3), ((0, 1, 5), (59, 3, 0)))), "turns 3 3\npath 0.1.5 59.3.0")

    def test_parse(self):
        self.assertEqual(parse_state("turns 0\npath"), ((0,), ()))
        self.assertEqual(parse_state("turns 0 1 2\npath 0.0.1 3.2.1"), ((0, 1, 2), ((0, 0, 1), (3, 2, 1))))
        # No book is asked.
        self.assertEqual(parse_state("turns 99 10\npath 98.0.77 1.2.3"), ((99, 10), ((98, 0, 77), (1, 2, 3))))
        self.assertEqual(parse_state("turns" + " 0" * 90 + "\npath" + " 0.0.0" * 90), ((0,) * 90, ((0, 0, 0),) * 90))

    def test_there_and_back(self):
        chance = random.Random(23)
        for _ in range(300):
            state = random_state(chance, random_book(chance))
            text = format_state(state)
            self.assertEqual(parse_state(text), state)
            self.assertEqual(format_state(parse_state(text)), text)
        state = ((3,) * 60, tuple((number, number % 4, number % 6) for number in range(60)))
        self.assertEqual(parse_state(format_state(state)), state)

    def test_bad_turns(self):
        for line in (
            "", " ", "turns", "turns ", "turns  0", " turns 0", "turns 0 ", "turn 0", "Turns 0", "turns0", "turns 0  1",
            "turns x", "turns 00", "turns 01", "turns 100", "turns -1", "turns 0.0", "turns 0,1", "turns\t0", "path",
            "turns 0 turns", "turns \u0661", "turns 1\r",
        ):
            self.check_bad(parse_state, line + "\npath", 0)
            self.check_bad(parse_state, line + "\npath x\nx", 0)
            self.check_bad(parse_state, line, 0)

    def test_bad_paths(self):
        for line in (
            "", " ", "path ", "path  0.0.0", "path 0.0.0 ", " path", "Path", "paths", "path0.0.0", "path 0", "path 0.0",
            "path 0.0.0.0", "path 0.0.", "path .0.0", "path 0..0", "path 00.0.0", "path 0.01.0", "path 0.0.100",
            "path x.0.0", "path 0.0.-1", "path 0 0 0", "path 0.0.0  1.0.0", "path 0,0,0", "path 0.0.0\t1.0.0",
            "turns 0", "path\r",
        ):
            self.check_bad(parse_state, "turns 0\n" + line, 1)
            self.check_bad(parse_state, "turns 0 1\n" + line + "\n", 1)

    def test_number_of_lines(self):
        self.check_bad(parse_state, "", 0)
        self.check_bad(parse_state, "turns 0", 1)
        self.check_bad(parse_state, "turns 0\n", 1)
        self.check_bad(parse_state, "turns 0\npath\n", 2)
        self.check_bad(parse_state, "turns 0\npath 0.0.1\npath", 2)
        self.check_bad(parse_state, "turns 0\npath\n\n\n", 2)
        self.check_bad(parse_state, "\nturns 0\npath", 0)
        self.check_bad(parse_state, "turns 0\n\npath", 1)

    def test_damaged_texts(self):
        chance = random.Random(24)
        seen = set()
        for _ in range(3000):
            text = damaged(chance, format_state(random_state(chance, random_book(chance))))
            row = first_bad_row_of_state(text)
            seen.add(row)
            if row is None:
                self.assertEqual(format_state(parse_state(text)), text)
            else:
                self.check_bad(parse_state, text, row)
        self.assertEqual(seen, {None, 0, 1, 2})


if __name__ == "__main__":
    unittest.main()
