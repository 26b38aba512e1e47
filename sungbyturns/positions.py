"""Positions: the word at a position, counts up to it, and the positions of words and starts."""

from sungbyturns.books import check_book, check_number, is_word, reachable_refrains
from sungbyturns.counts import MOST, check_count
from sungbyturns.states import check_state
from sungbyturns.walks import Walk


def word_at(book, state, number):
    """Return (word, path) of the word with a number, counted from 1."""
    check_book(book)
    check_state(book, state)
    check_count(number, 1, MOST)
    walk = Walk(book, state)
    walk.seek(is_word, number)
    return walk.next_item(), tuple(walk.path)


def advance(book, state, count):
    """Return the state after a number of words."""
    check_book(book)
    check_state(book, state)
    check_count(count, 0, MOST)
    walk = Walk(book, state)
    walk.sing(count)
    return walk.state()


def count_words(book, state, count):
    """Return (words, verses): how often each word is sung and each verse starts in the next words."""
    check_book(book)
    check_state(book, state)
    check_count(count, 0, MOST)
    walk = Walk(book, state)
    walk.sing(count)
    return walk.words_sung(), walk.starts


def find_word(book, state, word, number):
    """Return the position of the occurrence of a word with a number, or None."""
    check_book(book)
    check_state(book, state)
    check_count(number, 1, MOST)
    # Every verse of a reachable refrain comes again and again, and no other is ever sung.
    if not any([word in verse for refrain in reachable_refrains(book) for verse in book[refrain]]):
        return None
    walk = Walk(book, state)
    walk.seek(lambda item: item == word, number)
    return walk.position() + 1


def find_start(book, state, refrain, number):
    """Return how many words precede the start of a refrain with a number, or None."""
    check_book(book)
    check_state(book, state)
    check_number(book, refrain)
    check_count(number, 1, MOST)
    if refrain not in reachable_refrains(book):
        return None
    walk = Walk(book, state)
    if refrain == 0:
        walk.finish_song()
        walk.pass_songs(number - 1)
    else:
        walk.seek(lambda item: item == refrain, number)
    return walk.position()
