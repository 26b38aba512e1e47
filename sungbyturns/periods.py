"""Periods: complete songs, and after how many of them a book begins anew."""

from math import gcd

from sungbyturns.books import called_refrains, check_book
from sungbyturns.counts import MOST, check_count
from sungbyturns.ratios import lowest_terms
from sungbyturns.states import check_turns
from sungbyturns.walks import Walk, add_words


def advance_songs(book, turns, songs):
    """Return (number of words, turns afterwards) for a number of complete songs."""
    check_book(book)
    check_turns(book, turns)
    check_count(songs, 0, MOST)
    walk = Walk(book, (turns, ()))
    walk.pass_songs(songs)
    return walk.position(), tuple(walk.turns)


def rounds_of_period(book):
    """Return (songs, rounds): the songs of a period, and how often each refrain sings all its verses in it."""
    songs = 1
    starts = [0] * len(book)
    starts[0] = 1
    rounds = []
    for refrain, verses in enumerate(book):
        # As all callers sing whole rounds, the starts do not depend on turns and grow in
        # proportion to the songs: this is the least factor that makes rounds of them, too.
        # For a refrain that never starts it is 1.
        factor = len(verses) // gcd(len(verses), starts[refrain])
        songs *= factor
        starts = [factor * times for times in starts]
        rounds = [factor * times for times in rounds]
        rounds.append(starts[refrain] // len(verses))
        for called in called_refrains(verses):
            starts[called] += rounds[refrain]
    return songs, rounds


def words_in_rounds(book, rounds):
    """Return a dict from each word that occurs to its number, if refrains sing all their verses some times."""
    words = {}
    for verses, times in zip(book, rounds):
        if times:
            for verse in verses:
                add_words(words, verse, times)
    return words


def period(book):
    """Return (songs, words): the smallest number of songs after which all turns return, and their words."""
    check_book(book)
    songs, rounds = rounds_of_period(book)
    return songs, sum(words_in_rounds(book, rounds).values())


def average_length(book):
    """Return the average number of words per song as a fraction."""
    songs, words = period(book)
    return lowest_terms(words, songs)


def frequencies(book):
    """Return a dict from each word that occurs to its fraction of all words."""
    check_book(book)
    _, rounds = rounds_of_period(book)
    words = words_in_rounds(book, rounds)
    every = sum(words.values())
    return {word: lowest_terms(words[word], every) for word in words}
