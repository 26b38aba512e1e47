"""The numbers of the refrains that a source reaches."""

from sungbyturns.errors import BadProgram


def refrains_below(refrain):
    """Return a dict of True for each refrain that is sung within a refrain."""
    below = {}
    waiting = [refrain]
    while waiting:
        caller = waiting.pop()
        for _, called in caller.calls:
            if called not in below:
                below[called] = True
                waiting.append(called)
    return below


def check_recursion(reached):
    """Raise BadProgram at the first call that leads from a refrain back to it."""
    below = {refrain: refrains_below(refrain) for refrain in reached}
    for refrain in reached:
        for name, called in refrain.calls:
            if refrain in below[called]:
                raise BadProgram("recursion", name.row, name.column)


def callers_of(reached):
    """Return a dict from each refrain to the list of those that call it."""
    callers = {refrain: [] for refrain in reached}
    for refrain in reached:
        for _, called in refrain.calls:
            callers[called].append(refrain)
    return callers


def numbers_of(reached):
    """Return a dict from each refrain to its number, in the order of numbers."""
    callers = callers_of(reached)
    numbers = {}
    while len(numbers) < len(reached):
        ready = []
        for refrain in reached:
            if refrain not in numbers and all([caller in numbers for caller in callers[refrain]]):
                ready.append(refrain)
        # Of refrains of one definition, the first one of the list is the one reached first.
        numbers[min(ready, key=lambda one: one.definition)] = len(numbers)
    return numbers


def book_of(reached):
    """Return the book of the refrains that are reached, the first of which is the song."""
    check_recursion(reached)
    numbers = numbers_of(reached)
    book = []
    for refrain in numbers:
        book.append(tuple([tuple([numbers.get(item, item) for item in items]) for items in refrain.lists]))
    return tuple(book)
