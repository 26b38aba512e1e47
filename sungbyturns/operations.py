"""Operations: tuples of the name of a method of sessions and its arguments."""

from sungbyturns.errors import BadOperation

# The kinds of the arguments of each operation.
OPERATIONS = {
    "next_word": (),
    "skip": ("number",),
    "set_turn": ("number", "number"),
    "stop_song": (),
    "replace_verse": ("number", "number", "items"),
    "create_branch": ("name",),
    "switch_branch": ("name",),
    "delete_branch": ("name",),
    "undo": (),
}


def check_operation(operation, index):
    """Raise BadOperation with an index if the name or the number of arguments of an operation is wrong."""
    if not operation or operation[0] not in OPERATIONS:
        raise BadOperation(index)
    if len(operation) - 1 != len(OPERATIONS[operation[0]]):
        raise BadOperation(index)
