"""The operations of runners and editors: undone, redone, and saved under names."""

from onceonly.errors import InvalidName, InvalidOperation, OnceError, UnknownCheckpoint
from onceonly.words import is_name


def check_operations(operations, words):
    """Raise InvalidOperation if this is not a list of tuples of one of the words and its arguments.

    `words` is a tuple of tuples of a word and its number of arguments.
    """
    if not isinstance(operations, list):
        raise InvalidOperation(0)
    for index, operation in enumerate(operations):
        if not isinstance(operation, tuple) or not operation or (operation[0], len(operation) - 1) not in words:
            raise InvalidOperation(index)


class Timeline:
    """The operations in effect, those that can be redone, and the states between them.

    `states` holds the state at the beginning and after each operation in effect; no state is modified.
    `undone` holds tuples of an operation and the state after it, the operation that was undone last at
    the end.
    """

    def __init__(self, state):
        self.states = [state]
        self.done = []
        self.undone = []
        self.saved = {}
        self.busy = False

    def state(self):
        """Return the present state."""
        return self.states[-1]

    def enter(self, operation, state):
        """Record a new operation and the state after it."""
        self.states.append(state)
        self.done.append(operation)
        self.undone = []

    def undo(self):
        """Undo the last operation in effect; tell whether there was one."""
        if not self.done:
            return False
        self.undone.append((self.done.pop(), self.states.pop()))
        return True

    def redo(self):
        """Bring the operation that was undone last into effect again; tell whether there was one."""
        if not self.undone:
            return False
        operation, state = self.undone.pop()
        self.done.append(operation)
        self.states.append(state)
        return True

    def history(self):
        """Return the list of the operations in effect."""
        return list(self.done)

    def content(self):
        """Return everything except for checkpoints, in a form that is never modified."""
        return tuple(self.states), tuple(self.done), tuple(self.undone)

    def put_back(self, content):
        """Make everything except for checkpoints what it was when `content` was returned."""
        states, done, undone = content
        self.states = list(states)
        self.done = list(done)
        self.undone = list(undone)

    def save(self, name):
        """Save everything except for checkpoints under a name."""
        if not isinstance(name, str) or not is_name(name):
            raise InvalidName("a name has one to eight letters a to z")
        self.saved[name] = self.content()

    def restore(self, name):
        """Restore what was saved under a name."""
        # Not every value that is not a string can be looked up in a dict.
        if not isinstance(name, str) or name not in self.saved:
            raise UnknownCheckpoint("nothing was saved under this name")
        self.put_back(self.saved[name])

    def checkpoints(self):
        """Return the ascending list of the names under which something was saved."""
        return sorted(self.saved)

    def apply_all(self, owner, operations, words):
        """Let the owner execute operations and return the list of their results.

        If one of them raises an error, everything is as before.
        """
        check_operations(operations, words)
        before = self.content()
        self.busy = True
        try:
            return [owner.execute(operation) for operation in operations]
        except OnceError:
            self.put_back(before)
            raise
        finally:
            self.busy = False
