"""Simplifying books, and comparing what two books sing."""

from sungbyturns.books import check_book, reachable_refrains, replace_refrains
from sungbyturns.counts import check_count
from sungbyturns.singing import Singer
from sungbyturns.states import check_state, check_turns

MOST_COMPARED = 5000


def shortest_round(verses):
    """Return the shortest sequence of which the verses are repetitions."""
    for length in range(1, len(verses)):
        if verses[:length] * (len(verses) // length) == verses:
            return verses[:length]
    return verses


def shorten_refrains(book):
    """Return the book with all verses shortened and all uses of single items replaced, unused refrains included."""
    shortened = list(book)
    uses = list(range(len(book)))
    # Refrains only contain later ones, so going backwards no rule applies again to what is done.
    for refrain in reversed(range(len(book))):
        verses = shortest_round(replace_refrains(book[refrain], uses))
        shortened[refrain] = verses
        if len(verses) == 1 and len(verses[0]) == 1:
            uses[refrain] = verses[0][0]
    return tuple(shortened)


def simplify(book, turns):
    """Return an equivalent (book, turns) that is as simple as the rules of simplifying make it."""
    check_book(book)
    check_turns(book, turns)
    shortened = shorten_refrains(book)
    kept = reachable_refrains(shortened)
    numbers = {refrain: number for number, refrain in enumerate(kept)}
    simple_book = tuple([replace_refrains(shortened[refrain], numbers) for refrain in kept])
    simple_turns = tuple([int(turns[refrain]) % len(shortened[refrain]) for refrain in kept])
    return simple_book, simple_turns


def first_difference(book, state, other_book, other_state, count):
    """Return the number of the first of the next words that differs, or None."""
    check_book(book)
    check_state(book, state)
    check_book(other_book)
    check_state(other_book, other_state)
    check_count(count, 0, MOST_COMPARED)
    singer = Singer(book, state)
    other_singer = Singer(other_book, other_state)
    for number in range(1, count + 1):
        if singer.enter_word() != other_singer.enter_word():
            return number
        singer.step()
        other_singer.step()
    return None
