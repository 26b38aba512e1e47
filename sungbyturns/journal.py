"""Journals: bytes of a book and of the operations of a session."""

from sungbyturns.binary import decode_first_book, encode_book, values_of_items, values_of_word, with_checksum
from sungbyturns.books import MOST_ITEMS, MOST_REFRAINS, is_valid_word, is_word
from sungbyturns.counts import MOST
from sungbyturns.errors import BadData, BadOperation, BadRecord, SongError
from sungbyturns.operations import OPERATIONS, check_operation
from sungbyturns.reading import CHECKSUMS, LARGEST_BYTE, Reader
from sungbyturns.session import Session

# The letter with which the payload of an operation begins.
INITIALS = {
    "next_word": "n",
    "skip": "k",
    "set_turn": "t",
    "stop_song": "s",
    "replace_verse": "r",
    "create_branch": "c",
    "switch_branch": "b",
    "delete_branch": "d",
    "undo": "u",
}
# The bytes of a record before and behind its payload.
BYTES_BEFORE = 2
BYTES_BEHIND = 1
# A number is written in groups of seven bits.
GROUP = 128
MOST_GROUPS = 9


def is_encodable_item(item):
    return is_valid_word(item) if is_word(item) else 0 <= item < MOST_REFRAINS


def is_encodable(kind, argument):
    """Tell whether an argument of a kind is within the limits of journals."""
    if kind == "number":
        return 0 <= argument <= MOST
    if kind == "name":
        return is_valid_word(argument)
    return 1 <= len(argument) <= MOST_ITEMS and all([is_encodable_item(item) for item in argument])


def values_of_number(number):
    """Return the groups of seven bits of a number, low groups first."""
    values = []
    while number >= GROUP:
        values.append(GROUP + (number & (GROUP - 1)))
        number //= GROUP
    values.append(number)
    return values


def values_of_argument(kind, argument):
    if kind == "number":
        return values_of_number(argument)
    if kind == "name":
        return values_of_word(argument)
    return values_of_items(argument)


def encode_operation_at(operation, index):
    """Return the record of the operation at an index."""
    check_operation(operation, index)
    name, *arguments = operation
    payload = [ord(INITIALS[name])]
    for kind, argument in zip(OPERATIONS[name], arguments):
        if not is_encodable(kind, argument):
            raise BadOperation(index)
        payload.extend(values_of_argument(kind, argument))
    high, low = divmod(len(payload), LARGEST_BYTE + 1)
    return with_checksum([high, low] + payload)


def encode_operation(operation):
    """Return the record of an operation."""
    return encode_operation_at(operation, 0)


def encode_journal(book, operations):
    """Return the journal of a book and of operations."""
    parts = [encode_book(book)]
    for index, operation in enumerate(operations):
        parts.append(encode_operation_at(operation, index))
    return b"".join(parts)


def end_of_record(data, start):
    """Return where the record that begins at an offset ends, or None if it is not complete."""
    if start + BYTES_BEFORE > len(data):
        return None
    size = data[start] * (LARGEST_BYTE + 1) + data[start + 1]
    checksum = start + BYTES_BEFORE + size
    if checksum >= len(data) or data[checksum] != sum(data[start:checksum]) % CHECKSUMS:
        return None
    return checksum + BYTES_BEHIND


def ends_of_records(data, start):
    """Return a list of an offset and the ends of all complete records from there on."""
    ends = []
    end = start
    while end is not None:
        ends.append(end)
        end = end_of_record(data, end)
    return ends


def read_number(reader):
    number = 0
    worth = 1
    for _ in range(MOST_GROUPS):
        group = reader.read_byte(0, LARGEST_BYTE)
        number += (group & (GROUP - 1)) * worth
        if group < GROUP:
            return number
        worth *= GROUP
    raise BadData(reader.offset)


def read_argument(reader, kind):
    if kind == "number":
        return read_number(reader)
    if kind == "name":
        return reader.read_word()
    return reader.read_items()


def decode_operation(payload):
    """Return the operation of a payload; raise BadData if it is invalid."""
    reader = Reader(payload)
    letter = reader.read_byte(0, LARGEST_BYTE)
    for name in OPERATIONS:
        if ord(INITIALS[name]) == letter:
            arguments = [read_argument(reader, kind) for kind in OPERATIONS[name]]
            reader.read_end()
            return (name, *arguments)
    raise BadData(0)


def record_ends(data):
    """Return the offsets where the first record begins and where each complete record ends."""
    _, start = decode_first_book(data)
    return ends_of_records(data, start)


def recover(data):
    """Return (session, rest): a session that did what a journal tells, and the number of bytes after that."""
    book, start = decode_first_book(data)
    session = Session(book)
    ends = ends_of_records(data, start)
    for index in range(len(ends) - 1):
        try:
            session.perform(decode_operation(data[ends[index] + BYTES_BEFORE:ends[index + 1] - BYTES_BEHIND]))
        except SongError:
            raise BadRecord(index) from None
    return session, len(data) - ends[-1]
