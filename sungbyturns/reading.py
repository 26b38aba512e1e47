"""Reading bytes."""

from sungbyturns.books import LETTERS, LONGEST_WORD, MOST_ITEMS, MOST_REFRAINS
from sungbyturns.errors import BadData

LARGEST_BYTE = 255
CHECKSUMS = 251
# The byte of refrain 0 among items, and that of the letter a.
FIRST_REFRAIN = 128
FIRST_LETTER = 97


class Reader:
    """Reads data from the first byte on, and raises BadData at the first invalid one.

    Each method reads what it is named after.
    """

    def __init__(self, data):
        self.data = data
        self.offset = 0

    def coming_byte(self):
        """Return the byte that comes next."""
        if self.offset == len(self.data):
            raise BadData(self.offset)
        return self.data[self.offset]

    def read_byte(self, least, most):
        """Read a byte within a range."""
        value = self.coming_byte()
        if not least <= value <= most:
            raise BadData(self.offset)
        self.offset += 1
        return value

    def read_word(self):
        size = self.read_byte(1, LONGEST_WORD)
        last = FIRST_LETTER + len(LETTERS) - 1
        return "".join([LETTERS[self.read_byte(FIRST_LETTER, last) - FIRST_LETTER] for _ in range(size)])

    def read_item(self):
        if self.coming_byte() < FIRST_REFRAIN:
            return self.read_word()
        return self.read_byte(FIRST_REFRAIN, FIRST_REFRAIN + MOST_REFRAINS - 1) - FIRST_REFRAIN

    def read_items(self):
        """Read the items of a verse, and their number before them."""
        size = self.read_byte(1, MOST_ITEMS)
        return tuple([self.read_item() for _ in range(size)])

    def read_checksum(self):
        """Read the checksum of all bytes so far."""
        checksum = sum(self.data[:self.offset]) % CHECKSUMS
        self.read_byte(checksum, checksum)

    def read_end(self):
        if self.offset < len(self.data):
            raise BadData(self.offset)
