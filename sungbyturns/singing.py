"""Singing word by word."""

from sungbyturns.books import is_word


class Singer:
    """A way through the words of a book; `turns` and `path` are the state that is reached."""

    def __init__(self, book, state):
        turns, path = state
        self.book = book
        self.turns = list(turns)
        self.path = list(path)

    def state(self):
        return tuple(self.turns), tuple(self.path)

    def next_item(self):
        refrain, verse, item = self.path[-1]
        return self.book[refrain][verse][item]

    def enter(self, refrain):
        """Start a refrain."""
        verse = self.turns[refrain]
        self.turns[refrain] = (verse + 1) % len(self.book[refrain])
        self.path.append((refrain, verse, 0))

    def enter_word(self):
        """Start all refrains that start before the next word, and return this word."""
        if not self.path:
            self.enter(0)
        while not is_word(self.next_item()):
            self.enter(self.next_item())
        return self.next_item()

    def step(self):
        """Go behind the next item, and out of the verses that end there."""
        while self.path:
            refrain, verse, item = self.path.pop()
            if item + 1 < len(self.book[refrain][verse]):
                self.path.append((refrain, verse, item + 1))
                return
