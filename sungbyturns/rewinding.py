"""Rewinding: from a state back to earlier ones.

To sing a book backwards is to sing its mirror: verses rotate the other way,
and their items stand in the opposite order.
"""

from sungbyturns.books import check_book
from sungbyturns.counts import MOST, check_count
from sungbyturns.states import check_state
from sungbyturns.walks import Walk


def mirror_book(book):
    return tuple([tuple([verse[::-1] for verse in verses[::-1]]) for verses in book])


def mirror_path(book, path):
    mirrored = []
    for refrain, verse, item in path:
        verses = book[refrain]
        mirrored.append((refrain, len(verses) - 1 - verse, len(verses[verse]) - 1 - item))
    if mirrored:
        # The item that comes next backwards is the one before the item that comes next.
        refrain, verse, item = mirrored.pop()
        mirrored.append((refrain, verse, item + 1))
    return tuple(mirrored)


def mirror_state(book, state):
    """Return the state of the mirrored book from which the words before a state are sung backwards.

    Mirroring the result in the mirrored book gives the state again.
    """
    turns, path = state
    mirrored = [(len(verses) - turn) % len(verses) for turn, verses in zip(turns, book)]
    for refrain, verse, _ in path:
        # Backwards, too, a verse on the path has started, so the turn is the one behind it.
        mirrored[refrain] = (len(book[refrain]) - verse) % len(book[refrain])
    return tuple(mirrored), mirror_path(book, path)


def rewind(book, state, count):
    """Return the state from which a number of words leads to a state."""
    check_book(book)
    check_state(book, state)
    check_count(count, 0, MOST)
    mirrored = mirror_book(book)
    walk = Walk(mirrored, mirror_state(book, state))
    walk.sing(count)
    return mirror_state(mirrored, walk.state())
