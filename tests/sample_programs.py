"""Random programs of the song language, as trees for tests.plain_compiler."""

from tests.plain_compiler import T

NAMES = ("A", "B", "Song", "R", "Refrain", "Zz", "C", "Long")
NUMBER_PARAMETERS = ("#n", "#m", "#la", "#k", "#o")
NAME_PARAMETERS = ("X", "Y", "W", "V", "U")
WORDS = ("a", "la", "n", "m", "abcdefgh", "lo")


class Maker:
    """Makes one program; `faults` is the share of places in which something is wrong."""

    def __init__(self, chance, faults):
        self.chance = chance
        self.faults = faults
        self.names = chance.sample(NAMES, chance.randint(1, 6))
        self.takes = {}
        for number, name in enumerate(self.names):
            self.takes[name] = self.parameters() if number else []
        self.own = []
        self.later = []

    def faulty(self):
        return self.chance.random() < self.faults

    def parameters(self):
        texts = self.chance.sample(NUMBER_PARAMETERS + NAME_PARAMETERS, self.chance.choice((0, 0, 1, 1, 2, 3, 4)))
        if texts and self.chance.random() < 0.2:
            # A parameter that may hide a definition.
            texts[0] = self.chance.choice(self.names)
        return texts

    def program(self):
        return [self.definition(number) for number in range(len(self.names))]

    def definition(self, number):
        name = self.names[number]
        texts = list(self.takes[name])
        if self.faulty():
            texts.append(self.chance.choice(NUMBER_PARAMETERS + NAME_PARAMETERS))
        if self.faulty() and texts:
            texts = texts + texts[:1] + texts
        self.own = texts
        self.later = self.names[number + 1:]
        many = 5 if self.faulty() else self.chance.choice((1, 1, 1, 2, 2, 3, 4))
        verses = [self.verse() for _ in range(many)]
        if self.chance.random() < 0.3 and "#n" in texts:
            verses.append(self.countdown(name))
        if self.chance.random() < 0.3 and "X" in texts:
            verses.append([self.wrapped(name, text) for text in texts if not text.startswith("#")])
        shown = self.chance.choice(self.names) if self.faulty() else name
        return T(shown), [(T("#" if text.startswith("#") else text), text) for text in texts], verses[:many]

    def verse(self):
        return [self.item(0) for _ in range(self.chance.choice((1, 1, 2, 2, 3, 4)))]

    def countdown(self, name):
        """A verse that calls its own refrain as long as a number is above 0."""
        arguments = []
        for text in self.takes[name]:
            if text == "#n":
                arguments.append(("number", T("#"), [("+", T("n")), ("-", T("1"))]))
            else:
                arguments.append(self.argument(text, 2))
        call = ("call", T(name), arguments)
        return [("word", T("a")), ("choice", [("+", T("n"))], ">", [("+", T("0"))], [call], [], T("["))]

    def wrapped(self, name, text):
        """A call of another refrain, to which a parameter is passed again and again."""
        part = ("call", T(text), [])
        for _ in range(self.chance.randint(1, 3)):
            taker = self.chance.choice([name] + self.later)
            if len(self.takes[taker]) == 1 and not self.takes[taker][0].startswith("#"):
                part = ("call", T(taker), [part])
        return part

    def item(self, depth):
        kind = self.chance.choice(("word", "word", "call", "call", "call", "repeat", "choice"))
        if depth > 3 or kind == "word":
            return ("word", T(self.chance.choice(WORDS)))
        if kind == "call":
            return self.call(depth)
        if kind == "repeat":
            return ("repeat", self.sum(), self.item(depth + 1), T("#"))
        sign = self.chance.choice("<=>")
        parts = [[self.item(depth + 1) for _ in range(self.chance.choice((0, 1, 1, 2)))] for _ in range(2)]
        return ("choice", self.sum(), sign, self.sum(), parts[0], parts[1], T("["))

    def call(self, depth):
        own = [text for text in self.own if not text.startswith("#")]
        names = own * 2 + self.later
        if self.chance.random() < self.faults or not names:
            names = NAMES + NAME_PARAMETERS if self.faulty() else self.names
        name = self.chance.choice(names)
        wanted = [] if name in own else self.takes.get(name, [])
        if self.faulty():
            wanted = wanted[1:] if self.chance.random() < 0.5 else wanted + ["X"]
        return ("call", T(name), [self.argument(text, depth) for text in wanted])

    def argument(self, text, depth):
        if text.startswith("#") != self.faulty():
            return ("number", T("#"), self.sum())
        if depth > 8 or self.chance.random() < 0.4:
            return ("word", T(self.chance.choice(WORDS)))
        return self.call(depth + 2)

    def sum(self):
        # Nothing stands before the first term.
        total = [("+", self.term())]
        if self.faulty():
            total.extend([("+", T("999999")), ("+", T(self.chance.choice("0123")))])
        for _ in range(self.chance.choice((0, 0, 0, 1, 2))):
            total.append((self.chance.choice("+-"), self.term()))
        return total

    def term(self):
        own = [text[1:] for text in self.own if text.startswith("#")]
        if own and self.chance.random() < 0.6:
            return T(self.chance.choice(own))
        if self.faulty():
            return T(self.chance.choice(("n", "q", "999999", "999999", "7")))
        return T(self.chance.choice("00112234"))


def random_program(chance, faults):
    return Maker(chance, faults).program()
