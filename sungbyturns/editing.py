"""Editing: states with other turns, and books with other verses."""

from sungbyturns.books import check_book, check_number, check_refrain
from sungbyturns.counts import check_count
from sungbyturns.errors import RefrainBusy
from sungbyturns.states import check_state


def with_value(values, at, value):
    """Return a tuple with one of its values replaced."""
    return values[:at] + (value,) + values[at + 1:]


def check_place(book, refrain, verse):
    """Raise BadRefrain or BadCount if a valid book has no such refrain or verse."""
    check_number(book, refrain)
    check_count(verse, 0, len(book[refrain]) - 1)


def check_idle(state, refrain):
    """Raise RefrainBusy if a refrain is on the path."""
    _, path = state
    if any([entry[0] == refrain for entry in path]):
        raise RefrainBusy("the refrain is being sung")


def turned(book, state, refrain, verse):
    """Return a state of a valid book with another turn."""
    check_place(book, refrain, verse)
    check_idle(state, refrain)
    turns, path = state
    return with_value(turns, refrain, verse), path


def stopped(state):
    """Return a state with an empty path."""
    turns, _ = state
    return turns, ()


def rewritten(book, refrain, verse, items):
    """Return a valid book with another verse."""
    check_place(book, refrain, verse)
    changed = with_value(book, refrain, with_value(book[refrain], verse, tuple(items)))
    # No other refrain can have become invalid.
    check_refrain(changed, refrain)
    return changed


def set_turn(book, state, refrain, verse):
    """Return the state in which a refrain uses another verse next."""
    check_book(book)
    check_state(book, state)
    return turned(book, state, refrain, verse)


def stop_song(book, state):
    """Return the state with the same turns and an empty path."""
    check_book(book)
    check_state(book, state)
    return stopped(state)


def replace_verse(book, refrain, verse, items):
    """Return the book in which a verse of a refrain is replaced."""
    check_book(book)
    return rewritten(book, refrain, verse, items)
