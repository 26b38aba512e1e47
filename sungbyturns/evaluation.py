"""The evaluation of a source: which refrains its song reaches, and of which items their verses are."""

from sungbyturns.books import MOST_ITEMS, MOST_REFRAINS
from sungbyturns.errors import BadProgram
from sungbyturns.syntax import Call, Repeat, Word

LARGEST_SUM = 1000000
MOST_REPEATS = 6
DEEPEST = 6


class Refrain:
    """What calls of one definition with equal arguments stand for.

    `definition` is the number of the definition, and `meanings` a dict from the
    texts of its parameters to numbers, words and refrains. Evaluation adds
    `lists`, for each verse a list of words and refrains, and `calls`, a list
    of all (name, refrain) in these verses, in order.
    """

    def __init__(self, definition, meanings, depth):
        self.definition = definition
        self.meanings = meanings
        self.depth = depth
        self.lists = []
        self.calls = []


def depth_of(arguments):
    """Return how deep the refrains among arguments are nested."""
    return max([argument.depth for argument in arguments if isinstance(argument, Refrain)], default=0)


def value_of_sum(refrain, total):
    """Return the value of a sum in a verse of a refrain."""
    value = 0
    for sign, term in total.terms:
        amount = int(term.text) if term.kind == "number" else refrain.meanings["#" + term.text]
        value += sign * amount
        if not -LARGEST_SUM <= value <= LARGEST_SUM:
            raise BadProgram("overflow", total.first.row, total.first.column)
    return value


def times_of(refrain, total):
    """Return how often an item is repeated."""
    times = value_of_sum(refrain, total)
    if not 0 <= times <= MOST_REPEATS:
        raise BadProgram("repeat", total.first.row, total.first.column)
    return times


def parts_chosen(refrain, choice):
    """Return the items for which a choice stands."""
    left = value_of_sum(refrain, choice.left)
    right = value_of_sum(refrain, choice.right)
    if choice.sign == "<":
        holds = left < right
    elif choice.sign == ">":
        holds = left > right
    else:
        holds = left == right
    return choice.chosen if holds else choice.others


class Evaluation:
    """The refrains of a source. `reached` has those that can be sung, in the order in which they are reached."""

    def __init__(self, definitions):
        self.definitions = definitions
        self.numbers = {definition.name.text: number for number, definition in enumerate(definitions)}
        self.refrains = {}
        self.reached = []

    def evaluate(self):
        """Evaluate the song and all refrains that it reaches."""
        song = self.definitions[0].name
        self.reach(song, self.refrain_of(song, []))
        done = 0
        while done < len(self.reached):
            self.evaluate_refrain(self.reached[done])
            done += 1

    def evaluate_refrain(self, refrain):
        for verse in self.definitions[refrain.definition].verses:
            items = self.items_of(refrain, verse.parts)
            if not 1 <= len(items) <= MOST_ITEMS:
                raise BadProgram("length", verse.first.row, verse.first.column)
            refrain.lists.append(items)

    def items_of(self, refrain, parts):
        """Return the items of parts of a verse; of more than a verse can have, one more is enough."""
        items = []
        for part in parts:
            items.extend(self.items_of_part(refrain, part))
        return items[:MOST_ITEMS + 1]

    def items_of_part(self, refrain, part):
        if isinstance(part, Word):
            return [part.text]
        if isinstance(part, Call):
            return [self.sing_call(refrain, part)]
        if isinstance(part, Repeat):
            times = times_of(refrain, part.times)
            # What is sung again reaches nothing new.
            return self.items_of(refrain, [part.part]) * times if times else []
        return self.items_of(refrain, parts_chosen(refrain, part))

    def sing_call(self, refrain, call):
        """Return the word or refrain that a call stands for, and reach it."""
        value = self.value_of_call(refrain, call)
        if isinstance(value, Refrain):
            self.reach(call.name, value)
            refrain.calls.append((call.name, value))
        return value

    def value_of_call(self, refrain, call):
        """Return the word or refrain that a call in a verse of a refrain stands for."""
        if call.name.text in refrain.meanings:
            return refrain.meanings[call.name.text]
        return self.refrain_of(call.name, [self.value_of_argument(refrain, argument) for argument in call.arguments])

    def value_of_argument(self, refrain, argument):
        if argument.is_number():
            return value_of_sum(refrain, argument.meaning)
        if isinstance(argument.meaning, Word):
            return argument.meaning.text
        return self.value_of_call(refrain, argument.meaning)

    def refrain_of(self, name, arguments):
        """Return the one refrain of a name with these arguments."""
        number = self.numbers[name.text]
        key = (number, tuple(arguments))
        if key not in self.refrains:
            depth = 1 + depth_of(arguments)
            if depth > DEEPEST:
                raise BadProgram("nesting", name.row, name.column)
            parameters = self.definitions[number].parameters
            meanings = {parameter.text: value for parameter, value in zip(parameters, arguments)}
            self.refrains[key] = Refrain(number, meanings, depth)
        return self.refrains[key]

    def reach(self, name, refrain):
        """Add a refrain that is called by a name to the ones that are reached."""
        if refrain not in self.reached:
            if len(self.reached) == MOST_REFRAINS:
                raise BadProgram("refrains", name.row, name.column)
            self.reached.append(refrain)
