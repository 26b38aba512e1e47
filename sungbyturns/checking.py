"""Checks of a source before its refrains are evaluated."""

from sungbyturns.books import MOST_VERSES
from sungbyturns.errors import BadProgram
from sungbyturns.syntax import Call, Choice, Repeat

MOST_PARAMETERS = 4


def check_parameters(parameters, most):
    """Raise BadProgram for the first parameter that is too many or has appeared already."""
    seen = {}
    for number, parameter in enumerate(parameters):
        if number == most:
            raise BadProgram("parameters", parameter.first.row, parameter.first.column)
        if parameter.text in seen:
            raise BadProgram("duplicate", parameter.first.row, parameter.first.column)
        seen[parameter.text] = True


def check_definitions(definitions):
    """Check names, parameters and numbers of verses."""
    seen = {}
    for definition in definitions:
        name = definition.name
        if name.text in seen:
            raise BadProgram("duplicate", name.row, name.column)
        # The song is the first definition, and it takes no parameters.
        check_parameters(definition.parameters, MOST_PARAMETERS if seen else 0)
        seen[name.text] = True
        if len(definition.verses) > MOST_VERSES:
            first = definition.verses[MOST_VERSES].first
            raise BadProgram("verses", first.row, first.column)


class Scope:
    """What can be named in the verses of a definition.

    `definitions` is a dict from names to definitions, and `own` a dict from
    the texts of the definition's parameters.
    """

    def __init__(self, definitions, definition):
        self.definitions = definitions
        self.own = {parameter.text: True for parameter in definition.parameters}

    def check_parts(self, parts):
        for part in parts:
            self.check_part(part)

    def check_part(self, part):
        if isinstance(part, Call):
            self.check_call(part)
        elif isinstance(part, Repeat):
            self.check_sum(part.times)
            self.check_part(part.part)
        elif isinstance(part, Choice):
            self.check_sum(part.left)
            self.check_sum(part.right)
            self.check_parts(part.chosen)
            self.check_parts(part.others)

    def check_sum(self, total):
        for _, term in total.terms:
            if term.kind == "word" and "#" + term.text not in self.own:
                raise BadProgram("undefined", term.row, term.column)

    def parameters_of(self, name):
        """Return the parameters that a called name takes."""
        if name.text in self.own:
            return []
        if name.text not in self.definitions:
            raise BadProgram("undefined", name.row, name.column)
        return self.definitions[name.text].parameters

    def check_call(self, call):
        parameters = self.parameters_of(call.name)
        if len(call.arguments) != len(parameters):
            raise BadProgram("arguments", call.name.row, call.name.column)
        for argument, parameter in zip(call.arguments, parameters):
            if argument.is_number() != parameter.is_number():
                raise BadProgram("mismatch", argument.first.row, argument.first.column)
            if argument.is_number():
                self.check_sum(argument.meaning)
            else:
                self.check_part(argument.meaning)


def check_program(definitions):
    """Raise BadProgram at the first error that can be told without evaluating anything."""
    check_definitions(definitions)
    table = {definition.name.text: definition for definition in definitions}
    for definition in definitions:
        scope = Scope(table, definition)
        for verse in definition.verses:
            scope.check_parts(verse.parts)
