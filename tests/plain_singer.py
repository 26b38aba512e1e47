"""A second singer, for comparison: it sings word by word, by the rules alone."""


def perform(book, turns, refrain, above):
    """Sing a refrain once; yield ("start", refrain, verse) and ("word", word, path)."""
    verse = turns[refrain]
    turns[refrain] = (verse + 1) % len(book[refrain])
    yield ("start", refrain, verse)
    yield from perform_items(book, turns, (refrain, verse), 0, above)


def perform_items(book, turns, place, first, above):
    refrain, verse = place
    for at in range(first, len(book[refrain][verse])):
        item = book[refrain][verse][at]
        path = above + ((refrain, verse, at),)
        if isinstance(item, str):
            yield ("word", item, path)
        else:
            yield from perform(book, turns, item, path)


def events(book, turns, path):
    """Sing on forever from a state; `turns` is a list that is kept up to date."""
    for depth in reversed(range(len(path))):
        refrain, verse, item = path[depth]
        first = item if depth == len(path) - 1 else item + 1
        yield from perform_items(book, turns, (refrain, verse), first, path[:depth])
    while True:
        yield from perform(book, turns, 0, ())


def behind(book, path):
    """The path after the word to which a path leads."""
    while path:
        refrain, verse, item = path[-1]
        path = path[:-1]
        if item + 1 < len(book[refrain][verse]):
            return path + ((refrain, verse, item + 1),)
    return path


def sing_songs(book, turns, songs):
    """Sing complete songs; return the list of their words and the turns afterwards."""
    turns = list(turns)
    words = []
    for _ in range(songs):
        words.extend(what for kind, what, _ in perform(book, turns, 0, ()) if kind == "word")
    return words, tuple(turns)


class Record:
    """What a plain singer heard in the first `count` words from a state on.

    words: a list of (word, path). states: the states after 0, 1, .. words.
    starts: a list of (refrain, verse, words sung before it), of all verses
    that start before the last of the words.
    """

    def __init__(self, book, state, count):
        self.book = book
        turns = list(state[0])
        self.words = []
        self.states = [state]
        self.starts = []
        for kind, what, where in events(book, turns, state[1]):
            if len(self.words) == count:
                break
            if kind == "start":
                self.starts.append((what, where, len(self.words)))
            else:
                self.words.append((what, where))
                self.states.append((tuple(turns), behind(book, where)))
        # The break may have come after a start that leads to the next word.
        self.starts = [start for start in self.starts if start[2] < count]

    def counts(self, count):
        """What count_words has to return."""
        words = {}
        for word, _ in self.words[:count]:
            words[word] = words.get(word, 0) + 1
        verses = [[0] * len(refrain) for refrain in self.book]
        for refrain, verse, before in self.starts:
            if before < count:
                verses[refrain][verse] += 1
        return words, verses

    def positions_of(self, word):
        return [at + 1 for at, (sung, _) in enumerate(self.words) if sung == word]

    def starts_of(self, refrain):
        return [before for number, _, before in self.starts if number == refrain]
