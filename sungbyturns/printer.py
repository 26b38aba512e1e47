"""Printing books as sources of the song language."""

from sungbyturns.books import LETTERS, reachable_refrains, replace_refrains
from sungbyturns.plain_text import format_verses

CAPITALS = "ABCDEFGHIJKLMNOPQRSTUVWXYZ"


def name_of(refrain):
    """Return the name of a refrain: A to Z, then Aa to Za, and so on."""
    round_of_names, letter = divmod(refrain, len(CAPITALS))
    if round_of_names:
        return CAPITALS[letter] + LETTERS[round_of_names - 1]
    return CAPITALS[letter]


def to_source(book):
    """Return a source of the refrains of a book that can be sung."""
    refrains = reachable_refrains(book)
    names = {refrain: name_of(refrain) for refrain in refrains}
    lines = []
    for refrain in refrains:
        verses = format_verses(replace_refrains(book[refrain], names))
        lines.append(f"{names[refrain]} = {verses};")
    return "\n".join(lines)
