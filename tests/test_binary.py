"""Point 22: books and states as bytes."""

import random
import unittest

from sungbyturns.binary import decode_book, decode_state, encode_book, encode_state, pack_bytes, unpack_bytes
from sungbyturns.errors import BadBook, BadCount, BadData, BadState
from tests.plain_bytes import book_bytes, book_layout, first_invalid, state_bytes, state_layout, summed
from tests.sample_books import NESTED, SONG, medley, random_book, random_state, sieve, thicket, tower

SMALL = ((("a",),),)
BAD_BOOK = ((("a", 1),),)
# Bytes at and beyond the limits of the point.
EDGES = (0, 1, 3, 4, 5, 6, 7, 8, 9, 59, 60, 61, 96, 97, 122, 123, 127, 128, 187, 188, 255)
# The deepest path: all refrains, each but the last one in front of the next one.
DEEP = tuple(((number + 1, "x"),) for number in range(59)) + ((("x", "y"),),)
DEEP_STATE = ((0,) * 60, tuple((number, 0, 0) for number in range(59)) + ((59, 0, 1),))


def damaged(chance, data):
    """The data with bytes changed, removed, added or cut off, half of them with a right checksum."""
    values = list(data)
    for _ in range(chance.choice((1, 1, 2))):
        at = chance.randrange(len(values) + 1)
        kind = chance.choice(("change", "change", "nudge", "remove", "add", "cut"))
        if kind == "change":
            values[at:at + 1] = [chance.choice(EDGES)]
        elif kind == "nudge":
            values[at:at + 1] = [(value + chance.choice((1, 255))) % 256 for value in values[at:at + 1]]
        elif kind == "remove":
            del values[at:at + 1]
        elif kind == "add":
            values.insert(at, chance.randrange(256))
        else:
            del values[at:]
    return summed(values[:-1]) if chance.random() < 0.5 else bytes(values)


class BytesCase(unittest.TestCase):
    def check_offset(self, decode, data, offset):
        with self.subTest(data=list(data)), self.assertRaises(BadData) as caught:
            decode(data)
        self.assertEqual(vars(caught.exception), {"offset": offset})

    def check_layout(self, decode, encode, layout, data, later):
        """Decoding has to fail where a layout says so; what it allows may still be no book or state."""
        offset = first_invalid(layout, data)
        if offset is not None:
            self.check_offset(decode, data, offset)
            return
        try:
            self.assertEqual(encode(decode(data)), data)
        except later:
            pass


class PackTest(unittest.TestCase):
    def test_there_and_back(self):
        for values in ([], [0], [255], [66, 67], list(range(256)) * 3):
            data = pack_bytes(values)
            self.assertIs(type(data), bytes)
            self.assertEqual(data, bytes(values))
            self.assertEqual(unpack_bytes(data), values)
        self.assertIs(type(unpack_bytes(b"a")), list)

    def test_bad_integers(self):
        for values in ([-1], [256], [10 ** 18], [0, 255, 256], [-1, 300], [7] * 100 + [-200]):
            self.assertRaises(BadCount, pack_bytes, values)

    def test_returned_list_may_be_changed(self):
        data = pack_bytes([1, 2])
        unpack_bytes(data).clear()
        self.assertEqual(unpack_bytes(data), [1, 2])


class BookTest(BytesCase):
    def check_book_offset(self, values, offset):
        """Integers that are a book up to an offset, with and without a right checksum."""
        self.check_offset(decode_book, bytes(values), offset)
        self.check_offset(decode_book, summed(values), offset)
        self.check_offset(decode_book, summed(values) + b"\x00", offset)

    def test_encode(self):
        self.assertEqual(unpack_bytes(encode_book(SMALL)), [66, 1, 1, 1, 1, 97, 167])
        self.assertEqual(
            unpack_bytes(encode_book(((("la", 1), (1, "lu")), (("z",),)))),
            [66, 2, 2, 2, 2, 108, 97, 129, 2, 129, 2, 108, 117, 1, 1, 1, 122, 891 - 3 * 251],
        )

    def test_there_and_back(self):
        chance = random.Random(25)
        books = [SONG, NESTED, medley(), sieve(), thicket(), tower(), DEEP]
        for book in books + [random_book(chance) for _ in range(200)]:
            data = encode_book(book)
            self.assertIs(type(data), bytes)
            self.assertEqual(data, book_bytes(book))
            self.assertEqual(decode_book(data), book)

    def test_bad_books(self):
        for book, place in (((), (0, -1)), (BAD_BOOK, (0, 0)), (((("a",), ("A",)),), (0, 1)), (tower() * 2, (60, -1))):
            with self.assertRaises(BadBook) as caught:
                encode_book(book)
            self.assertEqual((caught.exception.refrain, caught.exception.verse), place)

    def test_limits(self):
        self.check_book_offset([67, 1, 1, 1, 1, 97], 0)
        self.check_book_offset([83, 1, 0, 0], 0)
        self.check_book_offset([66, 0, 1, 1, 1, 97], 1)
        self.check_book_offset([66, 61] + [1, 1, 1, 97] * 61, 1)
        self.check_book_offset([66, 1, 0, 1, 1, 97], 2)
        self.check_book_offset([66, 1, 5] + [1, 1, 97] * 5, 2)
        self.check_book_offset([66, 1, 1, 0, 1, 97], 3)
        self.check_book_offset([66, 1, 1, 7] + [1, 97] * 7, 3)
        self.assertEqual(len(decode_book(summed([66, 60] + [1, 1, 1, 97] * 60))), 60)
        self.assertEqual(len(decode_book(summed([66, 1, 4] + [1, 1, 97] * 4))[0]), 4)
        self.assertEqual(len(decode_book(summed([66, 1, 1, 6] + [1, 97] * 6))[0][0]), 6)

    def test_words(self):
        for size in (0, *range(9, 128)):
            self.check_book_offset([66, 1, 1, 1, size] + [97] * size, 4)
        for size in range(1, 9):
            self.assertEqual(decode_book(summed([66, 1, 1, 1, size] + [97] * size)), (((("a" * size),),),))
        for letter in range(256):
            values = [66, 1, 1, 1, 3, 122, letter, 97]
            if 97 <= letter <= 122:
                self.assertEqual(decode_book(summed(values)), ((("z" + chr(letter) + "a",),),))
            else:
                self.check_book_offset(values, 6)

    def test_refrains(self):
        for item in range(188, 256):
            self.check_book_offset([66, 1, 1, 2, 1, 97, item], 6)
        self.assertEqual(decode_book(summed([66, 2, 1, 1, 129, 1, 1, 1, 97])), (((1,),), (("a",),)))
        # Only the book tells that a number is wrong.
        for item in (128, 130, 187):
            with self.assertRaises(BadBook) as caught:
                decode_book(summed([66, 2, 2, 1, 129, 2, 1, 97, item, 1, 1, 1, 97]))
            self.assertEqual(vars(caught.exception), {"refrain": 0, "verse": 1})

    def test_checksum(self):
        data = encode_book(NESTED)
        for checksum in range(256):
            if checksum != data[-1]:
                self.check_offset(decode_book, data[:-1] + bytes([checksum]), len(data) - 1)
                self.check_offset(decode_book, data[:-1] + bytes([checksum, 0]), len(data) - 1)
        # The bytes before it sum up to 2 * 251, or one less.
        for last, checksum in ((108, 0), (107, 250)):
            values = [66, 1, 1, 1, 4, 107, 107, 107, last, checksum]
            self.assertEqual(unpack_bytes(encode_book(decode_book(bytes(values)))), values)
            self.check_offset(decode_book, bytes(values[:-1] + [251 - checksum]), 9)

    def test_ends(self):
        for book in (SMALL, NESTED, thicket()):
            data = encode_book(book)
            for size in range(len(data)):
                self.check_offset(decode_book, data[:size], size)
            for more in (b"\x00", b"\xff", data):
                self.check_offset(decode_book, data + more, len(data))

    def test_bytes_come_before_the_book(self):
        # A refrain that sings itself.
        values = [66, 1, 1, 1, 128]
        self.assertRaises(BadBook, decode_book, summed(values))
        self.check_offset(decode_book, bytes(values), 5)
        self.check_offset(decode_book, bytes(values + [0]), 5)
        self.check_offset(decode_book, summed(values) + b"\x00", 6)

    def test_damaged_data(self):
        chance = random.Random(26)
        for _ in range(3000):
            data = damaged(chance, encode_book(random_book(chance)))
            self.check_layout(decode_book, encode_book, book_layout, data, BadBook)


class StateTest(BytesCase):
    def decoder(self, book):
        return lambda data: decode_state(book, data)

    def check_state_offset(self, values, offset):
        decode = self.decoder(DEEP)
        self.check_offset(decode, bytes(values), offset)
        self.check_offset(decode, summed(values), offset)
        self.check_offset(decode, summed(values) + b"\x00", offset)

    def test_encode(self):
        self.assertEqual(unpack_bytes(encode_state(((("a", "b"),),), ((0,), ((0, 0, 1),)))), [83, 1, 0, 1, 0, 0, 1, 86])
        self.assertEqual(unpack_bytes(encode_state(SONG, ((1, 2), ()))), [83, 2, 1, 2, 0, 88])
        self.assertEqual(len(encode_state(DEEP, DEEP_STATE)), 2 + 60 + 1 + 180 + 1)

    def test_there_and_back(self):
        chance = random.Random(27)
        self.assertEqual(decode_state(DEEP, encode_state(DEEP, DEEP_STATE)), DEEP_STATE)
        for _ in range(300):
            book = random_book(chance)
            state = random_state(chance, book)
            data = encode_state(book, state)
            self.assertEqual(data, state_bytes(state))
            self.assertEqual(decode_state(book, data), state)

    def test_order_of_errors(self):
        bad_state = ((0,), ((0, 0, 0),))
        self.assertRaises(BadBook, encode_state, BAD_BOOK, bad_state)
        self.assertRaises(BadState, encode_state, SMALL, bad_state)
        with self.assertRaises(BadBook) as caught:
            decode_state(BAD_BOOK, b"")
        self.assertEqual(vars(caught.exception), {"refrain": 0, "verse": 0})
        self.check_offset(self.decoder(SMALL), state_bytes(((1,), ()))[:-1], 4)
        self.check_offset(self.decoder(SMALL), state_bytes(((1,), ())) + b"\x00", 5)
        self.assertRaises(BadState, decode_state, SMALL, state_bytes(((1,), ())))

    def test_limits(self):
        self.check_state_offset([66, 1, 0, 0], 0)
        self.check_state_offset([0], 0)
        self.check_state_offset([83, 0, 0], 1)
        self.check_state_offset([83, 61] + [0] * 62, 1)
        self.check_state_offset([83, 2, 3, 4, 0], 3)
        self.check_state_offset([83, 2, 255, 4, 0], 2)
        self.check_state_offset([83, 1, 0, 61] + [0, 0, 0] * 61, 3)
        self.check_state_offset([83, 1, 0, 1, 60, 4, 6], 4)
        self.check_state_offset([83, 1, 0, 1, 59, 4, 6], 5)
        self.check_state_offset([83, 1, 0, 1, 59, 3, 6], 6)
        self.check_state_offset([83, 1, 0, 2, 59, 3, 5, 60, 0, 0], 7)

    def test_what_only_the_book_tells(self):
        for values in (
            [83, 60] + [0] * 60 + [60] + [0, 0, 0] * 60, [83, 1, 3, 1, 59, 3, 5], [83, 1, 0, 0], [83, 59] + [0] * 60,
            [83, 60] + [0] * 59 + [1, 0], [83, 60] + [0] * 60 + [1, 0, 0, 0], [83, 60] + [0] * 60 + [1, 59, 0, 1],
        ):
            self.assertIsNone(first_invalid(state_layout, summed(values)))
            self.assertRaises(BadState, decode_state, DEEP, summed(values))
        self.assertEqual(decode_state(DEEP, summed([83, 60] + [0] * 61)), ((0,) * 60, ()))

    def test_checksum(self):
        data = encode_state(DEEP, DEEP_STATE)
        for checksum in range(256):
            if checksum != data[-1]:
                self.check_offset(self.decoder(DEEP), data[:-1] + bytes([checksum]), len(data) - 1)

    def test_ends(self):
        for book, state in ((SMALL, ((0,), ())), (SONG, ((1, 2), ((0, 0, 1),))), (DEEP, DEEP_STATE)):
            data = encode_state(book, state)
            for size in range(len(data)):
                self.check_offset(self.decoder(book), data[:size], size)
            for more in (b"\x00", b"\xff", data):
                self.check_offset(self.decoder(book), data + more, len(data))

    def test_damaged_data(self):
        chance = random.Random(28)
        for _ in range(3000):
            book = random_book(chance)
            data = damaged(chance, encode_state(book, random_state(chance, book)))
            self.check_layout(self.decoder(book), lambda state: encode_state(book, state), state_layout, data, BadState)


if __name__ == "__main__":
    unittest.main()
