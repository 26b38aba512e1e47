"""Books and states as bytes."""

from sungbyturns.books import MOST_ITEMS, MOST_REFRAINS, MOST_VERSES, check_book, is_word
from sungbyturns.counts import check_count
from sungbyturns.reading import CHECKSUMS, FIRST_REFRAIN, LARGEST_BYTE, Reader
from sungbyturns.states import check_state

# The first bytes: the letters B and S.
BOOK = 66
STATE = 83


def pack_bytes(values):
    """Return the bytes of a list of integers."""
    for value in values:
        check_count(value, 0, LARGEST_BYTE)
    return bytes(values)


def unpack_bytes(data):
    """Return the list of the integers of bytes."""
    return list(data)


def with_checksum(values):
    """Return the bytes of a list of integers and their checksum."""
    return pack_bytes(values + [sum(values) % CHECKSUMS])


def values_of_word(word):
    return [len(word)] + list(word.encode("ascii"))


def values_of_items(items):
    """Return the integers of the items of a verse, and their number before them."""
    values = [len(items)]
    for item in items:
        values.extend(values_of_word(item) if is_word(item) else [FIRST_REFRAIN + item])
    return values


def encode_book(book):
    """Return the bytes of a book."""
    check_book(book)
    values = [BOOK, len(book)]
    for verses in book:
        values.append(len(verses))
        for verse in verses:
            values.extend(values_of_items(verse))
    return with_checksum(values)


def read_verses(reader):
    """Read the verses of a refrain, and their number before them."""
    size = reader.read_byte(1, MOST_VERSES)
    return tuple([reader.read_items() for _ in range(size)])


def read_book(reader):
    reader.read_byte(BOOK, BOOK)
    size = reader.read_byte(1, MOST_REFRAINS)
    book = tuple([read_verses(reader) for _ in range(size)])
    reader.read_checksum()
    return book


def decode_book(data):
    """Return the book of bytes."""
    reader = Reader(data)
    book = read_book(reader)
    reader.read_end()
    check_book(book)
    return book


def decode_first_book(data):
    """Return the book with which bytes begin, and the offset behind it."""
    reader = Reader(data)
    book = read_book(reader)
    check_book(book)
    return book, reader.offset


def encode_state(book, state):
    """Return the bytes of a state."""
    check_book(book)
    check_state(book, state)
    turns, path = state
    values = [STATE, len(turns)] + list(turns) + [len(path)]
    for entry in path:
        values.extend(entry)
    return with_checksum(values)


def read_turns(reader):
    size = reader.read_byte(1, MOST_REFRAINS)
    return tuple([reader.read_byte(0, MOST_VERSES - 1) for _ in range(size)])


def read_step(reader):
    refrain = reader.read_byte(0, MOST_REFRAINS - 1)
    verse = reader.read_byte(0, MOST_VERSES - 1)
    return refrain, verse, reader.read_byte(0, MOST_ITEMS - 1)


def decode_state(book, data):
    """Return the state of bytes, which must fit the book."""
    check_book(book)
    reader = Reader(data)
    reader.read_byte(STATE, STATE)
    turns = read_turns(reader)
    # Refrains on a path come in ascending order, so there are no more steps than refrains.
    size = reader.read_byte(0, MOST_REFRAINS)
    path = tuple([read_step(reader) for _ in range(size)])
    reader.read_checksum()
    reader.read_end()
    check_state(book, (turns, path))
    return turns, path
