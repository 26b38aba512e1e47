"""Sessions: a song that is sung on branches, with a history that can be undone."""

from sungbyturns.books import is_valid_word, is_word
from sungbyturns.counts import MOST, check_count
from sungbyturns.editing import check_idle, rewritten, stopped, turned
from sungbyturns.errors import BadBranch, BadOperation, NoBranch, SongError
from sungbyturns.operations import check_operation
from sungbyturns.simplifying import MOST_COMPARED, first_difference
from sungbyturns.singing import Singer
from sungbyturns.states import initial_state
from sungbyturns.walks import Walk

FIRST_BRANCH = "main"


class Session:
    """A session. A branch is a tuple (book, state, word count)."""

    def __init__(self, book):
        self._branches = {FIRST_BRANCH: (book, initial_state(book), 0)}
        self._current = FIRST_BRANCH
        self._operations = []
        # What each operation that can still be reverted has changed: (branch's name,
        # branch before or None, current name before).
        self._changes = []

    def next_word(self):
        """Sing the next word on the current branch and return it."""
        book, state, words = self._branches[self._current]
        singer = Singer(book, state)
        word = singer.enter_word()
        singer.step()
        self._change_current(("next_word",), (book, singer.state(), words + 1))
        return word

    def skip(self, count):
        """Sing a number of words and return the last of them, or None."""
        check_count(count, 0, MOST)
        book, state, words = self._branches[self._current]
        last = None
        walk = Walk(book, state)
        if count:
            walk.seek(is_word, count)
            last = walk.next_item()
            walk.step()
        self._change_current(("skip", count), (book, walk.state(), words + count))
        return last

    def set_turn(self, refrain, verse):
        """Set the verse that a refrain uses next."""
        book, state, words = self._branches[self._current]
        state = turned(book, state, refrain, verse)
        self._change_current(("set_turn", refrain, verse), (book, state, words))

    def stop_song(self):
        """Stop the song on the current branch."""
        book, state, words = self._branches[self._current]
        self._change_current(("stop_song",), (book, stopped(state), words))

    def replace_verse(self, refrain, verse, items):
        """Replace a verse in the book of the current branch."""
        book, state, words = self._branches[self._current]
        # A refrain that does not exist is never busy, so BadRefrain still comes first.
        check_idle(state, refrain)
        book = rewritten(book, refrain, verse, items)
        self._change_current(("replace_verse", refrain, verse, tuple(items)), (book, state, words))

    def create_branch(self, name):
        """Copy the current branch under a new name and make the copy current."""
        if not is_valid_word(name) or name in self._branches:
            raise BadBranch(name)
        self._change(("create_branch", name), name, self._branches[self._current], name)

    def switch_branch(self, name):
        """Make another branch current."""
        self._check_branch(name)
        self._change(("switch_branch", name), name, self._branches[name], name)

    def delete_branch(self, name):
        """Remove a branch that is not current."""
        self._check_branch(name)
        if name == self._current:
            raise BadBranch(name)
        self._change(("delete_branch", name), name, None, self._current)

    def undo(self):
        """Revert the latest operation that has not been reverted yet; return whether there is one."""
        if not self._changes:
            return False
        name, branch, current = self._changes.pop()
        self._put(name, branch)
        self._current = current
        self._operations.append(("undo",))
        return True

    def apply(self, operations):
        """Perform all operations or none, and return the list of their results."""
        for index, operation in enumerate(operations):
            check_operation(operation, index)
        trial = Session(self.current_book())
        trial.copy_from(self)
        results = [trial.perform(operation) for operation in operations]
        self.copy_from(trial)
        return results

    def history(self):
        """Return the list of all recorded operations."""
        return list(self._operations)

    def branches(self):
        """Return the list of all names of branches in ascending order."""
        return sorted(self._branches)

    def current_branch(self):
        """Return the name of the current branch."""
        return self._current

    def current_book(self):
        """Return the book of the current branch."""
        return self._branches[self._current][0]

    def current_state(self):
        """Return the state of the current branch."""
        return self._branches[self._current][1]

    def word_count(self):
        """Return how many words were sung on the current branch."""
        return self._branches[self._current][2]

    def difference_from(self, name):
        """Return the number of the first of the next words that differs on another branch, or None."""
        self._check_branch(name)
        book, state, _ = self._branches[self._current]
        other_book, other_state, _ = self._branches[name]
        return first_difference(book, state, other_book, other_state, MOST_COMPARED)

    def perform(self, operation):
        """Perform an operation that check_operation accepts, and return its result."""
        methods = {
            "next_word": self.next_word,
            "skip": self.skip,
            "set_turn": self.set_turn,
            "stop_song": self.stop_song,
            "replace_verse": self.replace_verse,
            "create_branch": self.create_branch,
            "switch_branch": self.switch_branch,
            "delete_branch": self.delete_branch,
            "undo": self.undo,
        }
        name, *arguments = operation
        method = methods[name]
        return method(*arguments)

    def copy_from(self, other):
        """Take over all that another session is."""
        self._branches = dict(other._branches)
        self._current = other._current
        self._operations = list(other._operations)
        self._changes = list(other._changes)

    def _check_branch(self, name):
        if name not in self._branches:
            raise NoBranch(name)

    def _put(self, name, branch):
        """Give a name to a branch, or to none if the branch is None."""
        if branch is None:
            del self._branches[name]
        else:
            self._branches[name] = branch

    def _change(self, operation, name, branch, current):
        """Record an operation that puts a branch under a name and makes one current."""
        self._changes.append((name, self._branches.get(name), self._current))
        self._put(name, branch)
        self._current = current
        self._operations.append(operation)

    def _change_current(self, operation, branch):
        """Record an operation that changes the current branch."""
        self._change(operation, self._current, branch, self._current)


def replay(book, operations):
    """Return a new session that performed operations one by one."""
    session = Session(book)
    for index, operation in enumerate(operations):
        check_operation(operation, index)
        try:
            session.perform(operation)
        except SongError:
            raise BadOperation(index) from None
    return session
