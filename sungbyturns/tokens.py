"""The tokens of the song language."""

from sungbyturns.books import LONGEST_WORD
from sungbyturns.errors import BadSource

SIGNS = "=/;(),#*[]<>?:+-"
LONGEST_NUMBER = 6


class Token:
    """A token and its place. Its kind is "word", "name", "number", "end", or the sign that it is."""

    def __init__(self, kind, text, row, column):
        self.kind = kind
        self.text = text
        self.row = row
        self.column = column


def end_of_run(line, start, first, last):
    """Return where a run of characters from `first` to `last` ends that can begin at `start`."""
    end = start
    while end < len(line) and first <= line[end] <= last:
        end += 1
    return end


def token_at(line, row, column):
    """Return the token that begins in a line at a column."""
    letter = line[column]
    if letter in SIGNS:
        return Token(letter, letter, row, column)
    longest = LONGEST_WORD
    if "a" <= letter <= "z":
        kind, end = "word", end_of_run(line, column, "a", "z")
    elif "A" <= letter <= "Z":
        kind, end = "name", end_of_run(line, column + 1, "a", "z")
    else:
        kind, end, longest = "number", end_of_run(line, column, "0", "9"), LONGEST_NUMBER
    text = line[column:end]
    if not 1 <= len(text) <= longest or (letter == "0" and len(text) > 1):
        raise BadSource(row, column)
    return Token(kind, text, row, column)


def tokens_of(source):
    """Return the list of all tokens of a source, and behind them a token "end"."""
    lines = source.split("\n")
    tokens = []
    for row, line in enumerate(lines):
        column = 0
        while column < len(line):
            if line[column] == " ":
                column += 1
            else:
                token = token_at(line, row, column)
                tokens.append(token)
                column += len(token.text)
    tokens.append(Token("end", "", len(lines), 0))
    return tokens
