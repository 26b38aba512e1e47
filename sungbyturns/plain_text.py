"""Books and states as plain text."""

from sungbyturns.books import are_letters, check_book, replace_refrains
from sungbyturns.errors import BadText

LONGEST_NUMBER = 2


def format_verses(verses):
    """Return the text of verses of words and names."""
    return " / ".join([" ".join(verse) for verse in verses])


def format_book(book):
    """Return the text of a book, a line for each refrain."""
    check_book(book)
    numbers = [str(refrain) for refrain in range(len(book))]
    return "\n".join([format_verses(replace_refrains(verses, numbers)) for verses in book])


def is_number(text):
    if not 1 <= len(text) <= LONGEST_NUMBER or (len(text) > 1 and text[0] == "0"):
        return False
    return all(["0" <= digit <= "9" for digit in text])


def parse_number(text, row):
    if not is_number(text):
        raise BadText(row)
    return int(text)


def parse_item(text, row):
    # Whether a word is too long is a matter of the book, not of the text.
    if text and are_letters(text):
        return text
    return parse_number(text, row)


def parse_verse(text, row):
    return tuple([parse_item(part, row) for part in text.split(" ")])


def parse_book(text):
    """Return the book of a text."""
    lines = text.split("\n")
    book = tuple([tuple([parse_verse(part, row) for part in line.split(" / ")]) for row, line in enumerate(lines)])
    check_book(book)
    return book


def format_state(state):
    """Return the text of a state, a line for the turns and one for the path."""
    turns, path = state
    steps = [".".join([str(number) for number in entry]) for entry in path]
    return " ".join(["turns"] + [str(turn) for turn in turns]) + "\n" + " ".join(["path"] + steps)


def parts_behind(word, line, row):
    """Return the parts of a line behind the word with which it must begin."""
    first, *parts = line.split(" ")
    if first != word:
        raise BadText(row)
    return parts


def parse_step(text, row):
    numbers = tuple([parse_number(part, row) for part in text.split(".")])
    if len(numbers) != 3:
        raise BadText(row)
    return numbers


def parse_state(text):
    """Return the state of a text; it need not fit any book."""
    lines = text.split("\n")
    turns = tuple([parse_number(part, 0) for part in parts_behind("turns", lines[0], 0)])
    if not turns:
        raise BadText(0)
    if len(lines) < 2:
        raise BadText(1)
    path = tuple([parse_step(part, 1) for part in parts_behind("path", lines[1], 1)])
    if len(lines) > 2:
        raise BadText(2)
    return turns, path
