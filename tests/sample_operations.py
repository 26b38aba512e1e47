"""Random operations of sessions."""

MOST = 10 ** 18


def random_operation(chance, book, names):
    """An operation; one of four is likely to be invalid."""
    wrong = chance.random() < 0.25
    kind = chance.choice((
        "next_word", "next_word", "skip", "skip", "set_turn", "stop_song", "replace_verse",
        "create_branch", "switch_branch", "delete_branch", "undo", "undo",
    ))
    if kind == "skip":
        return (kind, chance.choice((-1, MOST + 1)) if wrong else chance.choice((0, 1, 2, 7, 30)))
    if kind == "set_turn":
        return (kind,) + random_place(chance, book, wrong)
    if kind == "replace_verse":
        return (kind,) + random_place(chance, book, wrong) + (random_items(chance, book),)
    if kind in ("create_branch", "switch_branch", "delete_branch"):
        fresh = kind == "create_branch"
        if fresh == wrong:
            return (kind, chance.choice(names))
        return (kind, chance.choice(("b", "c", "dd", "", "abcdefghi", "B", "a1", "a b", "main ")))
    return (kind,)


def random_place(chance, book, wrong):
    refrain = chance.randrange(len(book))
    verse = chance.randrange(len(book[refrain]))
    if wrong:
        refrain, verse = chance.choice((
            (-1, verse), (len(book), verse), (refrain, -1), (refrain, len(book[refrain])), (99, 99),
        ))
    return refrain, verse


def random_items(chance, book):
    size = chance.choice((1, 1, 2, 3, 7))
    items = [chance.choice(("x", "y", "", "Z", len(book) - 1, "abcdefgh")) for _ in range(size)]
    return chance.choice((tuple, list))(items)


def perform(session, operation):
    name, *arguments = operation
    return getattr(session, name)(*arguments)
