"""Books that several tests use."""

import random

SONG = ((("la", 1), (1, "lu")), (("a",), ("b",), ("c",)))

# Refrain 2 cannot be reached, refrain 3 only through refrain 1.
NESTED = (
    (("do", 1, "re"), (1, 3, 1), ("mi",)),
    ((3, "fa"), ("sol", 3, 3), ("fa",)),
    (("never", 3),),
    (("x",), ("y", "z")),
)

LAST = ((("a",), ("b",), ("c",), ("d",)))


def tower(height=60):
    """A song of 6 ** 59 words, which are a, b, c, d in turn."""
    return tuple(((number + 1,) * 6,) for number in range(height - 1)) + (LAST,)


def thicket(height=60):
    """Refrains of four verses, most of which sing the next refrain several times."""
    rows = []
    for number in range(height - 1):
        after = number + 1
        far = min(number + 2, height - 1)
        rows.append((
            (after, "p", after, after),
            (after,) * 6,
            ("q", far, after),
            ("r",) if number % 3 else (after, after, "s"),
        ))
    return tuple(rows) + (LAST,)


def sieve(height=60):
    """Songs of one word each; the word y is sung in every 4 ** 59th song only."""
    rows = [(("x",), ("x",), ("x",), (number + 1,)) for number in range(height - 1)]
    return tuple(rows) + ((("y",),),)


def medley(height=60):
    """One to four verses of up to six items, several refrains in most; each seventh refrain is never sung."""
    rows = []
    for number in range(height - 1):
        later = [after for after in range(number + 1, height) if after % 7 != 3][:3] or [height - 1]
        near, far = later[0], later[-1]
        verses = (
            (near, "p", near, far),
            (near, far) * 3,
            ("q", far, "rest", near, "abcdefgh"),
            ("r", near, near),
        )
        rows.append(verses[:number * number % 4 + 1])
    return tuple(rows) + (LAST,)


def random_book(chance):
    """A small book; `chance` is a random.Random."""
    size = chance.randint(1, 6)
    return tuple(random_refrain(chance, number, size) for number in range(size))


def random_refrain(chance, number, size):
    verses = []
    for _ in range(chance.randint(1, 4)):
        verses.append(tuple(random_item(chance, number, size) for _ in range(chance.randint(1, 4))))
    return tuple(verses)


def random_item(chance, number, size):
    if number + 1 < size and chance.random() < 0.5:
        return chance.randint(number + 1, size - 1)
    return chance.choice(("a", "b", "c", "d", "e"))


def random_state(chance, book):
    """A valid state of a book, between two songs or in the middle of one."""
    turns = [chance.randrange(len(verses)) for verses in book]
    path = []
    refrain = 0
    while chance.random() < 0.7:
        verse = chance.randrange(len(book[refrain]))
        items = book[refrain][verse]
        at = chance.randrange(len(items))
        path.append((refrain, verse, at))
        turns[refrain] = (verse + 1) % len(book[refrain])
        if isinstance(items[at], str):
            break
        refrain = items[at]
    # The item that is sung next is never the first one of its verse.
    while path and path[-1][2] == 0:
        path.pop()
    return tuple(turns), tuple(path)


def random_places(seed, many):
    """Books with a state between two songs and one that is often in the middle of a song."""
    chance = random.Random(seed)
    for _ in range(many):
        book = random_book(chance)
        yield book, ((0,) * len(book), ())
        yield book, random_state(chance, book)


def repetitive_book(chance):
    """A small book in which verses are often equal and often have a single item."""
    size = chance.randint(1, 7)
    book = []
    for number in range(size):
        verses = tuple(repetitive_verse(chance, number, size) for _ in range(chance.choice((1, 1, 2))))
        book.append(verses * chance.choice((1, 1, 2)))
    return tuple(book)


def repetitive_verse(chance, number, size):
    items = []
    for _ in range(chance.choice((1, 1, 1, 2, 3))):
        later = list(range(number + 1, min(number + 4, size)))
        items.append(chance.choice(["a", "b"] + later * 2))
    return tuple(items)


def random_turns(chance, book):
    return tuple(chance.randrange(len(verses)) for verses in book)
