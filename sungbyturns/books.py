"""Books: when they are valid, and which of their refrains can be sung."""

from sungbyturns.errors import BadBook, BadRefrain

MOST_REFRAINS = 60
MOST_VERSES = 4
MOST_ITEMS = 6
LONGEST_WORD = 8
LETTERS = "abcdefghijklmnopqrstuvwxyz"


def is_word(item):
    return isinstance(item, str)


def are_letters(text):
    return all(["a" <= letter <= "z" for letter in text])


def is_valid_word(text):
    return 1 <= len(text) <= LONGEST_WORD and are_letters(text)


def is_valid_item(book, refrain, item):
    if is_word(item):
        return is_valid_word(item)
    return refrain < item < len(book)


def is_valid_verse(book, refrain, verse):
    if not 1 <= len(verse) <= MOST_ITEMS:
        return False
    return all([is_valid_item(book, refrain, item) for item in verse])


def check_refrain(book, refrain):
    """Raise BadBook if a refrain of the book is invalid."""
    verses = book[refrain]
    if refrain >= MOST_REFRAINS or not 1 <= len(verses) <= MOST_VERSES:
        raise BadBook(refrain, -1)
    for number, verse in enumerate(verses):
        if not is_valid_verse(book, refrain, verse):
            raise BadBook(refrain, number)


def check_book(book):
    """Raise BadBook, with the first invalid place, if a book is invalid."""
    if not book:
        raise BadBook(0, -1)
    for refrain in range(len(book)):
        check_refrain(book, refrain)


def check_number(book, refrain):
    """Raise BadRefrain if a valid book has no refrain with a number."""
    if not 0 <= refrain < len(book):
        raise BadRefrain("there is no refrain with this number")


def called_refrains(verses):
    """Return the refrains among the items of verses, one for each item."""
    return [item for verse in verses for item in verse if not is_word(item)]


def replace_refrains(verses, table):
    """Return the verses with each refrain replaced by what a list or dict has for its number."""
    return tuple([tuple([item if is_word(item) else table[item] for item in verse]) for verse in verses])


def reachable_refrains(book):
    """Return the numbers of all refrains that refrain 0 leads to, itself included."""
    check_book(book)
    reached = [False] * len(book)
    reached[0] = True
    # Refrains only lead to later ones, so one pass in their order finds all.
    for refrain, verses in enumerate(book):
        if reached[refrain]:
            for called in called_refrains(verses):
                reached[called] = True
    return [refrain for refrain in range(len(book)) if reached[refrain]]
