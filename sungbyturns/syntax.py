"""The parts of a source of the song language, and how its grammar finds them."""

from sungbyturns.errors import BadSource
from sungbyturns.tokens import tokens_of


class Definition:
    """A name (a token), parameters and verses."""

    def __init__(self, name, parameters, verses):
        self.name = name
        self.parameters = parameters
        self.verses = verses


class Parameter:
    """A parameter; its text is a name, or # and a word."""

    def __init__(self, first, text):
        self.first = first
        self.text = text

    def is_number(self):
        return self.text.startswith("#")


class Verse:
    """Items and their first token."""

    def __init__(self, first, parts):
        self.first = first
        self.parts = parts


class Word:
    """An item or argument that is a word."""

    def __init__(self, text):
        self.text = text


class Call:
    """An item or argument that stands for a refrain, or for what a parameter stands for."""

    def __init__(self, name, arguments):
        self.name = name
        self.arguments = arguments


class Argument:
    """An argument of a call: a sum, a word or a call, and its first token."""

    def __init__(self, first, meaning):
        self.first = first
        self.meaning = meaning

    def is_number(self):
        return isinstance(self.meaning, Sum)


class Repeat:
    """An item that is repeated; the times are a sum."""

    def __init__(self, times, part):
        self.times = times
        self.part = part


class Choice:
    """Two sums, the sign that compares them, and the items for both answers."""

    def __init__(self, left, sign, right, chosen, others):
        self.left = left
        self.sign = sign
        self.right = right
        self.chosen = chosen
        self.others = others


class Sum:
    """Terms and their first token. A term is a tuple (1 or -1, token)."""

    def __init__(self, first, terms):
        self.first = first
        self.terms = terms


class Parser:
    """Reads tokens from the first to the last; each method reads what it is named after."""

    def __init__(self, tokens):
        self.tokens = tokens
        self.at = 0

    def coming(self):
        """Return the token that comes next."""
        return self.tokens[self.at]

    def sees(self, *kinds):
        return self.coming().kind in kinds

    def take(self, *kinds):
        """Read a token of one of some kinds."""
        token = self.coming()
        if token.kind not in kinds:
            raise BadSource(token.row, token.column)
        self.at += 1
        return token

    def parse_source(self):
        definitions = [self.parse_definition()]
        while not self.sees("end"):
            definitions.append(self.parse_definition())
        return definitions

    def parse_definition(self):
        name = self.take("name")
        parameters = self.parse_list(self.parse_parameter)
        self.take("=")
        verses = [self.parse_verse()]
        while self.sees("/"):
            self.take("/")
            verses.append(self.parse_verse())
        self.take(";")
        return Definition(name, parameters, verses)

    def parse_list(self, parse_member):
        """Read a list in parentheses, if there is one."""
        members = []
        if self.sees("("):
            self.take("(")
            members.append(parse_member())
            while self.sees(","):
                self.take(",")
                members.append(parse_member())
            self.take(")")
        return members

    def parse_parameter(self):
        first = self.take("#", "name")
        if first.kind == "#":
            return Parameter(first, "#" + self.take("word").text)
        return Parameter(first, first.text)

    def parse_verse(self):
        return Verse(self.coming(), [self.parse_part()] + self.parse_parts())

    def parse_parts(self):
        """Read items as long as there are any."""
        parts = []
        while self.sees("word", "name", "#", "["):
            parts.append(self.parse_part())
        return parts

    def parse_part(self):
        """Read an item."""
        if self.sees("#"):
            return self.parse_repeat()
        if self.sees("["):
            return self.parse_choice()
        return self.parse_word_or_call()

    def parse_word_or_call(self):
        token = self.take("word", "name")
        if token.kind == "word":
            return Word(token.text)
        return Call(token, self.parse_list(self.parse_argument))

    def parse_argument(self):
        first = self.coming()
        if self.sees("#"):
            self.take("#")
            return Argument(first, self.parse_sum())
        return Argument(first, self.parse_word_or_call())

    def parse_repeat(self):
        self.take("#")
        times = self.parse_sum()
        self.take("*")
        return Repeat(times, self.parse_part())

    def parse_choice(self):
        self.take("[")
        self.take("#")
        left = self.parse_sum()
        sign = self.take("<", "=", ">").kind
        right = self.parse_sum()
        self.take("?")
        chosen = self.parse_parts()
        self.take(":")
        others = self.parse_parts()
        self.take("]")
        return Choice(left, sign, right, chosen, others)

    def parse_sum(self):
        first = self.coming()
        terms = [(1, self.take("word", "number"))]
        while self.sees("+", "-"):
            sign = 1 if self.take("+", "-").kind == "+" else -1
            terms.append((sign, self.take("word", "number")))
        return Sum(first, terms)


def parse_source(source):
    """Return the list of the definitions of a source."""
    return Parser(tokens_of(source)).parse_source()
