"""A second session, for comparison: it sings word by word and keeps copies of everything."""

import copy

from sungbyturns.errors import (
    BadBook, BadBranch, BadCount, BadOperation, BadRefrain, NoBranch, RefrainBusy,
)
from tests.plain_singer import Record

ARGUMENTS = {
    "next_word": 0, "skip": 1, "set_turn": 2, "stop_song": 0, "replace_verse": 3,
    "create_branch": 1, "switch_branch": 1, "delete_branch": 1, "undo": 0,
}


def is_name(name):
    return 1 <= len(name) <= 8 and set(name) <= set("abcdefghijklmnopqrstuvwxyz")


def is_item(book, refrain, item):
    return is_name(item) if isinstance(item, str) else refrain < item < len(book)


class PlainSession:
    def __init__(self, book):
        branch = {"book": book, "state": ((0,) * len(book), ()), "words": 0}
        self.now = {"current": "main", "branches": {"main": branch}}
        self.before = []
        self.told = []

    def run(self, operation):
        """Perform one operation; an error changes nothing."""
        name, *arguments = operation
        if name == "undo":
            return self.undo()
        kept = copy.deepcopy(self.now)
        try:
            result = getattr(self, name)(self.now["branches"][self.now["current"]], *arguments)
        except Exception:
            self.now = kept
            raise
        self.before.append(kept)
        self.told.append(tuple(tuple(part) if isinstance(part, list) else part for part in operation))
        return result

    def undo(self):
        if not self.before:
            return False
        self.now = self.before.pop()
        self.told.append(("undo",))
        return True

    def run_all(self, operations):
        for index, operation in enumerate(operations):
            if not operation or ARGUMENTS.get(operation[0]) != len(operation) - 1:
                raise BadOperation(index)
        kept = copy.deepcopy((self.now, self.before, self.told))
        try:
            return [self.run(operation) for operation in operations]
        except Exception:
            self.now, self.before, self.told = kept
            raise

    def next_word(self, branch):
        return self.sing(branch, 1)

    def skip(self, branch, count):
        if not 0 <= count <= 10 ** 18:
            raise BadCount
        return self.sing(branch, count)

    def sing(self, branch, count):
        record = Record(branch["book"], branch["state"], count)
        branch["state"] = record.states[count]
        branch["words"] += count
        return record.words[-1][0] if count else None

    def check(self, branch, refrain, verse, idle_first):
        book, (_, path) = branch["book"], branch["state"]
        if not 0 <= refrain < len(book):
            raise BadRefrain
        errors = []
        if not 0 <= verse < len(book[refrain]):
            errors.append(BadCount)
        if refrain in [entry[0] for entry in path]:
            errors.append(RefrainBusy)
        if errors:
            raise errors[-1 if idle_first else 0]

    def set_turn(self, branch, refrain, verse):
        self.check(branch, refrain, verse, False)
        turns = list(branch["state"][0])
        turns[refrain] = verse
        branch["state"] = (tuple(turns), branch["state"][1])

    def stop_song(self, branch):
        branch["state"] = (branch["state"][0], ())

    def replace_verse(self, branch, refrain, verse, items):
        self.check(branch, refrain, verse, True)
        if not 1 <= len(items) <= 6 or not all(is_item(branch["book"], refrain, item) for item in items):
            raise BadBook(refrain, verse)
        book = [list(verses) for verses in branch["book"]]
        book[refrain][verse] = tuple(items)
        branch["book"] = tuple(tuple(verses) for verses in book)

    def create_branch(self, branch, name):
        if not is_name(name) or name in self.now["branches"]:
            raise BadBranch(name)
        self.now["branches"][name] = copy.deepcopy(branch)
        self.now["current"] = name

    def switch_branch(self, branch, name):
        if name not in self.now["branches"]:
            raise NoBranch(name)
        self.now["current"] = name

    def delete_branch(self, branch, name):
        if name not in self.now["branches"]:
            raise NoBranch(name)
        if name == self.now["current"]:
            raise BadBranch(name)
        del self.now["branches"][name]

    def view(self):
        """What a session shows of itself."""
        branch = self.now["branches"][self.now["current"]]
        return (
            self.told, sorted(self.now["branches"]), self.now["current"],
            branch["book"], branch["state"], branch["words"],
        )

    def difference_from(self, name):
        """The number of the first of 5000 words that differs on a branch, or None."""
        here = self.now["branches"][self.now["current"]]
        there = self.now["branches"][name]
        words = Record(here["book"], here["state"], 5000).words
        others = Record(there["book"], there["state"], 5000).words
        return next((at + 1 for at in range(5000) if words[at][0] != others[at][0]), None)


def view_of(session):
    """What a Session shows of itself, in the same order."""
    return (
        session.history(), session.branches(), session.current_branch(),
        session.current_book(), session.current_state(), session.word_count(),
    )
