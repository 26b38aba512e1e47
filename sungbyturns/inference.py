"""Inference: what the words that were heard tell about the turns of a song."""

from sungbyturns.books import check_book, is_word
from sungbyturns.errors import TooManyCandidates, TooManyWords
from sungbyturns.singing import Singer

MOST_WORDS = 60
MOST_CANDIDATES = 500


class Candidate(Singer):
    """One way to have sung what was heard.

    `first` has the turn of each refrain when the song started. There and in
    `turns`, it is None for a refrain that has several verses and has not
    started yet: nothing is known of it.
    """

    def __init__(self, book, first, state):
        super().__init__(book, state)
        self.first = first

    def coming_item(self):
        """Return the item that comes next; between two songs it is refrain 0."""
        return self.next_item() if self.path else 0

    def verses_of(self, refrain):
        """Return the verses that a refrain can use next."""
        turn = self.turns[refrain]
        return list(range(len(self.book[refrain]))) if turn is None else [turn]

    def ways_down(self, item, word, known):
        """Return all ways to start refrains from an item down to a word, as lists of (refrain, verse).

        Each refrain starts at most once on a way, since it only leads to later
        ones. Of the ways of a refrain, which `known` keeps, no more are
        returned than show that they are too many.
        """
        if is_word(item):
            return [[]] if item == word else []
        if item not in known:
            ways = []
            for verse in self.verses_of(item):
                for way in self.ways_down(self.book[item][verse][0], word, known):
                    ways.append([(item, verse)] + way)
            known[item] = ways[:MOST_CANDIDATES + 1]
        return known[item]

    def after(self, way):
        """Return the candidate that has gone down a way and has sung the word there."""
        later = Candidate(self.book, list(self.first), self.state())
        for refrain, verse in way:
            if later.turns[refrain] is None:
                later.first[refrain] = verse
                later.turns[refrain] = verse
            later.enter(refrain)
        later.step()
        return later

    def following(self):
        """Return a list of the words that can come next."""
        seen = {}
        waiting = [self.coming_item()]
        while waiting:
            item = waiting.pop()
            if item not in seen:
                seen[item] = True
                if not is_word(item):
                    waiting.extend([self.book[item][verse][0] for verse in self.verses_of(item)])
        return [item for item in seen if is_word(item)]

    def possible_turns(self):
        """Return with how many turns of all refrains the song can have started."""
        many = 1
        for verses, turn in zip(self.book, self.first):
            if turn is None:
                many *= len(verses)
        return many


def hear(candidates, word):
    """Return the candidates that are left after one more word."""
    left = []
    for candidate in candidates:
        for way in candidate.ways_down(candidate.coming_item(), word, {}):
            left.append(candidate.after(way))
        if len(left) > MOST_CANDIDATES:
            raise TooManyCandidates("too many different turns are possible")
    return left


def certain_turns(candidates):
    """Return for each refrain its turn at the start if it is the same for all candidates, else None."""
    certain = list(candidates[0].first)
    for candidate in candidates:
        for refrain, turn in enumerate(candidate.first):
            if turn != certain[refrain]:
                certain[refrain] = None
    return tuple(certain)


def infer_turns(book, words):
    """Return (count, certain, following) for the words heard from the start of a song on."""
    check_book(book)
    if len(words) > MOST_WORDS:
        raise TooManyWords("more words were heard than can be inferred from")
    unknown = [0 if len(verses) == 1 else None for verses in book]
    candidates = [Candidate(book, unknown, (unknown, ()))]
    for word in words:
        candidates = hear(candidates, word)
    if not candidates:
        return 0, None, []
    count = sum([candidate.possible_turns() for candidate in candidates])
    following = {word: True for candidate in candidates for word in candidate.following()}
    return count, certain_turns(candidates), sorted(following)
