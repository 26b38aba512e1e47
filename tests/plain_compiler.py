"""A second compiler, for comparison.

Where a source breaks the grammar is found by trying all derivations at once.
Programs are trees of tokens that stand for themselves; they are written out as
sources and evaluated as the document says it, without keeping anything.
"""

import re

GRAMMAR = """
source = definition | definition source
definition = name = verses ; | name ( parameters ) = verses ;
parameters = parameter | parameter , parameters
parameter = # word | name
verses = verse | verse / verses
verse = item | item verse
item = word | call | # sum * item | [ # sum sign sum ? chosen
chosen = verse : others | : others
others = verse ] | ]
sign = < | = | >
call = name | name ( arguments )
arguments = argument | argument , arguments
argument = # sum | word | call
sum = term | term + sum | term - sum
term = word | number
"""

RULES = {}
for row in GRAMMAR.strip().splitlines():
    left, right = row.split(" = ", 1)
    RULES.setdefault(left, []).extend(tuple(way.split()) for way in right.split(" | "))


def kind_of(text):
    """The kind of a token, None if the text is none."""
    for kind, pattern in (("word", "[a-z]{1,8}"), ("name", "[A-Z][a-z]{0,7}"), ("number", "0|[1-9][0-9]{0,5}")):
        if re.fullmatch(pattern, text):
            return kind
    return text if re.fullmatch(r"[=/;(),#*\[\]<>?:+-]", text) else None


def beginnings(symbol):
    """All (kind of token, symbols behind it) with which a symbol can begin."""
    waiting, found = [(symbol,)], []
    while waiting:
        first, *rest = waiting.pop()
        if first in RULES:
            waiting.extend(way + tuple(rest) for way in RULES[first])
        else:
            found.append((first, tuple(rest)))
    return found


BEGINNINGS = {symbol: beginnings(symbol) for symbol in RULES}


def first_misfit(kinds):
    """The index of the first kind of token that does not fit, the number of kinds if they end too early, or None."""
    stacks = {("source",)}
    for at, kind in enumerate(kinds):
        after = set()
        for stack in stacks:
            # No symbol stands for nothing, so each stack goes on with a token of its first symbol.
            for first, rest in BEGINNINGS.get(stack[0], [(stack[0], ())]) if stack else ():
                if first == kind:
                    after.add(rest + stack[1:])
        if not after:
            return at
        stacks = after
    return None if () in stacks else len(kinds)


def syntax_error(source):
    """The (row, column) at which a source breaks the grammar, or None."""
    rows = source.split("\n")
    tokens = []
    for row, line in enumerate(rows):
        for match in re.finditer("[a-z]+|[A-Z][a-z]*|[0-9]+|[^ ]", line):
            kind = kind_of(match.group())
            if kind is None:
                return row, match.start()
            tokens.append((kind, (row, match.start())))
    at = first_misfit([kind for kind, _ in tokens])
    if at is None:
        return None
    return tokens[at][1] if at < len(tokens) else (len(rows), 0)


class T:
    """A token of a program; it gets its place when the program is written out."""

    def __init__(self, text):
        self.text = text
        self.place = None


# A definition is (T, parameters, verses), a parameter (first T, text).
# An item is ("word", T), ("call", T, arguments), ("repeat", sum, item) or
# ("choice", left sum, sign, right sum, items, items); an argument is
# ("number", T #, sum), or a word or call like an item. A sum is a list of (sign, T).

def sum_tokens(total):
    for at, (sign, term) in enumerate(total):
        if at:
            yield T(sign)
        yield term


def item_tokens(item):
    kind = item[0]
    if kind == "word":
        yield item[1]
    elif kind == "number":
        yield item[1]
        yield from sum_tokens(item[2])
    elif kind == "call":
        yield item[1]
        for at, argument in enumerate(item[2]):
            yield T("," if at else "(")
            yield from item_tokens(argument)
        if item[2]:
            yield T(")")
    elif kind == "repeat":
        yield item[3]
        yield from sum_tokens(item[1])
        yield T("*")
        yield from item_tokens(item[2])
    else:
        yield item[6]
        yield T("#")
        yield from sum_tokens(item[1])
        yield T(item[2])
        yield from sum_tokens(item[3])
        yield T("?")
        for part in item[4]:
            yield from item_tokens(part)
        yield T(":")
        for part in item[5]:
            yield from item_tokens(part)
        yield T("]")


def program_tokens(program):
    for name, parameters, verses in program:
        yield name
        for at, (first, text) in enumerate(parameters):
            yield T("," if at else "(")
            yield first
            if text.startswith("#"):
                yield T(text[1:])
        if parameters:
            yield T(")")
        for at, verse in enumerate(verses):
            yield T("/" if at else "=")
            for item in verse:
                yield from item_tokens(item)
        yield T(";")


def write_out(chance, program):
    """The source of a program, with gaps as they come; its tokens get their places."""
    source, row, column, before = "", 0, 0, ""
    for token in program_tokens(program):
        joins = (before.isdigit() and token.text.isdigit()) or (before.isalpha() and token.text.islower())
        gap = chance.choice((" ", "  ", "\n", " \n\n  ") if joins else ("", "", "", " ", "\n"))
        for letter in gap:
            row, column = (row + 1, 0) if letter == "\n" else (row, column + 1)
        token.place = (row, column)
        source += gap + token.text
        column += len(token.text)
        before = token.text
    return source + chance.choice(("", "", " ", "\n", "\n\n"))


def first_token(item):
    return next(item_tokens(item))


class Wrong(Exception):
    def __init__(self, reason, token):
        super().__init__(reason)
        self.reason = reason
        self.place = token.place


def check_first_pass(program):
    for number, (name, parameters, verses) in enumerate(program):
        if name.text in [other[0].text for other in program[:number]]:
            raise Wrong("duplicate", name)
        for at, (first, text) in enumerate(parameters):
            if number == 0 or at == 4:
                raise Wrong("parameters", first)
            if text in [other for _, other in parameters[:at]]:
                raise Wrong("duplicate", first)
        if len(verses) > 4:
            raise Wrong("verses", first_token(verses[4][0]))


def check_second_pass(program):
    takes = {name.text: [text for _, text in parameters] for name, parameters, _ in program}
    for _, parameters, verses in program:
        own = [text for _, text in parameters]
        for verse in verses:
            for item in verse:
                check_item(takes, own, item)


def check_item(takes, own, item):
    kind = item[0]
    if kind == "call":
        check_call(takes, own, item)
    elif kind == "repeat":
        check_sum(own, item[1])
        check_item(takes, own, item[2])
    elif kind == "choice":
        check_sum(own, item[1])
        check_sum(own, item[3])
        for part in item[4] + item[5]:
            check_item(takes, own, part)
    elif kind == "number":
        check_sum(own, item[2])


def check_sum(own, total):
    for _, term in total:
        if term.text.isalpha() and "#" + term.text not in own:
            raise Wrong("undefined", term)


def check_call(takes, own, call):
    _, name, arguments = call
    if name.text not in own and name.text not in takes:
        raise Wrong("undefined", name)
    wanted = [] if name.text in own else takes[name.text]
    if len(wanted) != len(arguments):
        raise Wrong("arguments", name)
    for text, argument in zip(wanted, arguments):
        if text.startswith("#") != (argument[0] == "number"):
            raise Wrong("mismatch", first_token(argument))
        check_item(takes, own, argument)


def depth(value):
    """How deep a refrain (number of the definition, values of the arguments) is nested."""
    return 1 + max([depth(part) for part in value[1] if isinstance(part, tuple)], default=0)


class Run:
    """The evaluation of a program without errors in its definitions."""

    def __init__(self, program):
        self.program = program
        self.numbers = {name.text: number for number, (name, _, _) in enumerate(program)}
        self.order = [(0, ())]
        self.verses = {}
        self.edges = []

    def run(self):
        for refrain in self.order:
            definition, values = refrain
            _, parameters, verses = self.program[definition]
            meanings = {text: value for (_, text), value in zip(parameters, values)}
            self.verses[refrain] = []
            for verse in verses:
                sung = [value for item in verse for value in self.sing(refrain, meanings, item)]
                if not 0 < len(sung) < 7:
                    raise Wrong("length", first_token(verse[0]))
                self.verses[refrain].append(sung)

    def sing(self, refrain, meanings, item):
        """All words and refrains that an item stands for."""
        kind = item[0]
        if kind == "word":
            return [item[1].text]
        if kind == "call":
            value = self.value(meanings, item)
            if isinstance(value, tuple):
                self.edges.append((refrain, value, item[1]))
                if value not in self.order:
                    if len(self.order) == 60:
                        raise Wrong("refrains", item[1])
                    self.order.append(value)
            return [value]
        if kind == "repeat":
            times = self.total(meanings, item[1])
            if times < 0 or times > 6:
                raise Wrong("repeat", item[1][0][1])
            return [value for _ in range(times) for value in self.sing(refrain, meanings, item[2])]
        left, right = self.total(meanings, item[1]), self.total(meanings, item[3])
        holds = {"<": left < right, "=": left == right, ">": left > right}[item[2]]
        return [value for part in item[4 if holds else 5] for value in self.sing(refrain, meanings, part)]

    def value(self, meanings, item):
        """What an argument or a call stands for."""
        if item[0] == "number":
            return self.total(meanings, item[2])
        if item[0] == "word":
            return item[1].text
        if item[1].text in meanings:
            return meanings[item[1].text]
        refrain = (self.numbers[item[1].text], tuple(self.value(meanings, part) for part in item[2]))
        if depth(refrain) > 6:
            raise Wrong("nesting", item[1])
        return refrain

    def total(self, meanings, total):
        value = 0
        for sign, term in total:
            amount = int(term.text) if term.text.isdigit() else meanings["#" + term.text]
            value = value - amount if sign == "-" else value + amount
            if abs(value) > 1000000:
                raise Wrong("overflow", total[0][1])
        return value

    def leads(self, one, other):
        """Whether a refrain is sung within another one, or is it."""
        found = [one]
        for refrain in found:
            found.extend({below for above, below, _ in self.edges if above == refrain} - set(found))
        return other in found

    def book(self):
        for above, below, token in self.edges:
            if self.leads(below, above):
                raise Wrong("recursion", token)
        numbered = []
        while len(numbered) < len(self.order):
            ready = [
                (refrain[0], self.order.index(refrain), refrain) for refrain in self.order
                if refrain not in numbered
                and all(above in numbered for above, below, _ in self.edges if below == refrain)
            ]
            numbered.append(sorted(ready)[0][2])
        return tuple(
            tuple(
                tuple(item if isinstance(item, str) else numbered.index(item) for item in verse)
                for verse in self.verses[refrain]
            )
            for refrain in numbered
        )


def plain_compile(program):
    """The book of a program that has been written out; raises Wrong."""
    check_first_pass(program)
    check_second_pass(program)
    run = Run(program)
    run.run()
    return run.book()
