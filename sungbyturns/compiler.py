"""The compiler of the song language."""

from sungbyturns.checking import check_program
from sungbyturns.evaluation import Evaluation
from sungbyturns.numbering import book_of
from sungbyturns.syntax import parse_source


def compile_source(source):
    """Return the book of a source."""
    definitions = parse_source(source)
    check_program(definitions)
    evaluation = Evaluation(definitions)
    evaluation.evaluate()
    return book_of(evaluation.reached)
