"""A second account of the bytes of point 22 and 23, for comparison.

A layout is a generator: it yields which bytes can come next (or "sum" for a
checksum) and is sent the byte that came.
"""

LETTERS = range(97, 123)
ITEMS = [*range(1, 9), *range(128, 188)]


def item_layout():
    first = yield ITEMS
    if first < 128:
        for _ in range(first):
            yield LETTERS


def book_layout():
    yield (66,)
    refrains = yield range(1, 61)
    for _ in range(refrains):
        verses = yield range(1, 5)
        for _ in range(verses):
            items = yield range(1, 7)
            for _ in range(items):
                yield from item_layout()
    yield "sum"


def state_layout():
    yield (83,)
    turns = yield range(1, 61)
    for _ in range(turns):
        yield range(4)
    steps = yield range(61)
    for _ in range(steps):
        yield range(60)
        yield range(4)
        yield range(6)
    yield "sum"


def first_invalid(layout, data):
    """The offset of the first byte that a layout does not allow, or None."""
    steps = layout()
    allowed = next(steps)
    for offset, byte in enumerate(data):
        if allowed == "sum":
            allowed = (sum(data[:offset]) % 251,)
        if allowed is None or byte not in allowed:
            return offset
        try:
            allowed = steps.send(byte)
        except StopIteration:
            allowed = None
    return None if allowed is None else len(data)


def summed(values):
    """The bytes of integers and of their checksum."""
    return bytes(values) + bytes([sum(values) % 251])


def word_values(word):
    return [len(word)] + [ord(letter) for letter in word]


def verse_values(verse):
    values = [len(verse)]
    for item in verse:
        values += word_values(item) if isinstance(item, str) else [128 + item]
    return values


def book_bytes(book):
    values = [66, len(book)]
    for verses in book:
        values.append(len(verses))
        for verse in verses:
            values += verse_values(verse)
    return summed(values)


def state_bytes(state):
    turns, path = state
    return summed([83, len(turns), *turns, len(path), *(number for entry in path for number in entry)])


def number_values(number):
    """Groups of seven bits, low groups first."""
    groups = [number % 128]
    while number > 127:
        groups[-1] += 128
        number //= 128
        groups.append(number % 128)
    return groups


LETTER_OF = {
    "next_word": "n", "skip": "k", "set_turn": "t", "stop_song": "s", "replace_verse": "r",
    "create_branch": "c", "switch_branch": "b", "delete_branch": "d", "undo": "u",
}


def payload_values(operation):
    values = [ord(LETTER_OF[operation[0]])]
    for part in operation[1:]:
        if isinstance(part, int):
            values += number_values(part)
        elif isinstance(part, str):
            values += word_values(part)
        else:
            values += verse_values(part)
    return values


def record(payload):
    """The record of a payload, a list of integers."""
    return summed([len(payload) // 256, len(payload) % 256] + list(payload))


def journal_bytes(book, operations):
    return book_bytes(book) + b"".join(record(payload_values(operation)) for operation in operations)


def complete_ends(data, start):
    """The offset at which records start, and the ends of all complete ones."""
    ends = [start]
    while True:
        rest = data[ends[-1]:]
        size = 3 + 256 * rest[0] + rest[1] if len(rest) > 1 else 3
        if len(rest) < size or sum(rest[:size - 1]) % 251 != rest[size - 1]:
            return ends
        ends.append(ends[-1] + size)


def number_of(groups):
    """The number of groups and how many there are; None if they do not end or are too many."""
    for at, group in enumerate(groups[:9]):
        if group < 128:
            return sum((part & 127) << 7 * place for place, part in enumerate(groups[:at + 1])), at + 1
    return None


def layout_of_arguments(kinds):
    """The layout of names (w) and items (i)."""
    for kind in kinds:
        if kind == "w":
            size = yield range(1, 9)
            for _ in range(size):
                yield LETTERS
        else:
            items = yield range(1, 7)
            for _ in range(items):
                yield from item_layout()
    yield "sum"


def texts_of(values):
    """The words and refrains of integers that a layout allows, without their number."""
    found = []
    while values:
        size = values[0] if values[0] < 128 else 0
        found.append("".join(map(chr, values[1:size + 1])) if size else values[0] - 128)
        values = values[size + 1:]
    return tuple(found)


def operation_of(payload):
    """The operation of a payload, or None."""
    name = {ord(letter): name for name, letter in LETTER_OF.items()}.get(payload[0]) if payload else None
    if name is None:
        return None
    parts, rest = [name], list(payload[1:])
    for _ in range({"skip": 1, "set_turn": 2, "replace_verse": 2}.get(name, 0)):
        if number_of(rest) is None:
            return None
        parts.append(number_of(rest)[0])
        rest = rest[number_of(rest)[1]:]
    kinds = "i" if name == "replace_verse" else "w" if name.endswith("_branch") else ""
    # The layout ends in a checksum, which a payload does not have.
    if first_invalid(lambda: layout_of_arguments(kinds), summed(rest)) is not None:
        return None
    if kinds == "w":
        parts.append(texts_of(rest)[0])
    elif kinds == "i":
        parts.append(texts_of(rest[1:]))
    return tuple(parts)
