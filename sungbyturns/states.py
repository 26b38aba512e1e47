"""Turns and states: when they are valid, and the words that follow a state."""

from sungbyturns.books import check_book
from sungbyturns.counts import check_count
from sungbyturns.errors import BadState, BadTurns
from sungbyturns.singing import Singer

MOST_NEXT_WORDS = 200


def are_valid_turns(book, turns):
    if len(turns) != len(book):
        return False
    return all([0 <= turn < len(verses) for turn, verses in zip(turns, book)])


def check_turns(book, turns):
    """Raise BadTurns if turns that are passed alone are invalid."""
    if not are_valid_turns(book, turns):
        raise BadTurns("the turns do not name one verse of each refrain")


def is_valid_entry(book, turns, entry):
    """Tell whether an entry of a refrain of the book exists and fits the turns."""
    refrain, verse, item = entry
    if not 0 <= verse < len(book[refrain]):
        return False
    if not 0 <= item < len(book[refrain][verse]):
        return False
    return turns[refrain] == (verse + 1) % len(book[refrain])


def is_valid_path(book, turns, path):
    # At each entry this is what stands above it: a refrain of the book, or a word.
    expected = 0
    for entry in path:
        refrain, verse, item = entry
        if refrain != expected or not is_valid_entry(book, turns, entry):
            return False
        expected = book[refrain][verse][item]
    return not path or path[-1][2] != 0


def check_state(book, state):
    """Raise BadState if a state is invalid."""
    turns, path = state
    if not are_valid_turns(book, turns) or not is_valid_path(book, turns, path):
        raise BadState("the state does not fit the book")


def initial_state(book):
    """Return the state in which all turns are 0 and no song is being sung."""
    check_book(book)
    return (0,) * len(book), ()


def next_words(book, state, count):
    """Return a list of (word, path) for the next words."""
    check_book(book)
    check_state(book, state)
    check_count(count, 0, MOST_NEXT_WORDS)
    singer = Singer(book, state)
    sung = []
    for _ in range(count):
        word = singer.enter_word()
        sung.append((word, tuple(singer.path)))
        singer.step()
    return sung
