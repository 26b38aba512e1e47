"""Walks: singing a book from a state on, by leaps over many words."""

from sungbyturns.books import called_refrains, is_word
from sungbyturns.singing import Singer


def share_starts(turn, verses, starts):
    """Return how often each verse of a refrain starts when the refrain starts `starts` times."""
    last = verses - 1
    return [(starts + last - (verse - turn) % verses) // verses for verse in range(verses)]


def weights_of(book, is_wanted):
    """Return for each verse of each refrain how many of its items are wanted."""
    return [[len([item for item in verse if is_wanted(item)]) for verse in verses] for verses in book]


def weigh(table, weights):
    """Return the sum of all starts in a table, each times the weight of its verse."""
    total = 0
    for starts, row in zip(table, weights):
        for times, weight in zip(starts, row):
            total += times * weight
    return total


def add_words(words, items, times):
    """Add to a dict of words how often the words among items are sung."""
    for item in items:
        if is_word(item):
            words[item] = words.get(item, 0) + times


class Walk(Singer):
    """A way through a book that is counted.

    `starts` has one list per refrain: how often each of its verses started on the way.
    """

    def __init__(self, book, state):
        super().__init__(book, state)
        self.starts = [[0] * len(verses) for verses in book]
        self.calls = [[called_refrains((verse,)) for verse in verses] for verses in book]
        self.first_rest = self.rest()

    def rest(self):
        """Return the words of the verses on the path that are still to be sung."""
        words = []
        for refrain, verse, first in self.path:
            # An item that leads down the path is being sung already, but it is no word.
            words.extend([item for item in self.book[refrain][verse][first:] if is_word(item)])
        return words

    def enter(self, refrain):
        """Start a refrain."""
        self.starts[refrain][self.turns[refrain]] += 1
        super().enter(refrain)

    def table_of(self, refrain, times):
        """Return how often each verse starts if a refrain is sung some times from here on.

        The order in which refrains start does not matter for this: only how
        often each of them starts decides which of its verses are used.
        """
        pending = [0] * len(self.book)
        pending[refrain] = times
        table = []
        for number, calls in enumerate(self.calls):
            row = share_starts(self.turns[number], len(calls), pending[number])
            for called, starts in zip(calls, row):
                for item in called:
                    pending[item] += starts
            table.append(row)
        return table

    def leap(self, table):
        """Sing the verses of a table that starts here, each of them to its end."""
        for refrain, row in enumerate(table):
            self.turns[refrain] = int(self.turns[refrain] + sum(row)) % len(row)
            for verse, times in enumerate(row):
                self.starts[refrain][verse] += times

    def pass_item(self):
        """Sing the next item to its end."""
        item = self.next_item()
        if not is_word(item):
            self.leap(self.table_of(item, 1))
        self.step()

    def finish_song(self):
        while self.path:
            self.pass_item()

    def pass_songs(self, songs):
        """Sing complete songs, from between two songs."""
        self.leap(self.table_of(0, songs))

    def songs_below(self, weights, number):
        """Return in how many songs from here on the starts weigh less than a number."""
        low, high = 0, 1
        while weigh(self.table_of(0, high), weights) < number:
            low, high = high, high * 2
        while high - low > 1:
            middle = (low + high) // 2
            if weigh(self.table_of(0, middle), weights) < number:
                low = middle
            else:
                high = middle
        return low

    def seek(self, is_wanted, number):
        """Go to the wanted item with a number, counted from 1, without singing it.

        Some item that is wanted must be reachable from refrain 0.
        """
        weights = weights_of(self.book, is_wanted)
        left = number
        while True:
            if not self.path:
                table = self.table_of(0, self.songs_below(weights, left))
                left -= weigh(table, weights)
                self.leap(table)
                self.enter(0)
            if is_wanted(self.next_item()):
                left -= 1
                if left == 0:
                    return
            left -= self.pass_below(weights, left)

    def pass_below(self, weights, number):
        """Sing the next item if its starts weigh less than a number, and return their weight.

        Otherwise only start the item, which is a refrain, and return 0.
        """
        item = self.next_item()
        if is_word(item):
            self.step()
            return 0
        table = self.table_of(item, 1)
        weight = weigh(table, weights)
        if weight >= number:
            self.enter(item)
            return 0
        self.leap(table)
        self.step()
        return weight

    def sing(self, count):
        """Sing a number of words."""
        if count:
            self.seek(is_word, count)
            self.step()

    def words_sung(self):
        """Return a dict from each word that was sung on the way to its number."""
        words = {}
        add_words(words, self.first_rest, 1)
        for verses, row in zip(self.book, self.starts):
            for verse, times in zip(verses, row):
                add_words(words, verse, times)
        # Verses that have started count above as a whole.
        add_words(words, self.rest(), -1)
        return {word: words[word] for word in words if words[word]}

    def position(self):
        """Return how many words were sung on the way."""
        return sum(self.words_sung().values())
