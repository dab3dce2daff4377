"""Editors: systems that are changed step by step."""

from onceonly.errors import InvalidCall, ServiceInUse, TooManyCalls, TooManyServices, UnknownCall, UnknownService
from onceonly.systems import MOST_CALLS, MOST_SERVICES, check_system, is_call, is_number_within
from onceonly.timeline import Timeline
from onceonly.windows import least_windows

# The words of the operations, and their numbers of arguments.
WORDS = (
    ("add_call", 1), ("remove_call", 1), ("set_offsets", 2), ("set_delays", 3), ("add_service", 0),
    ("remove_service", 1),
)


def without_number(service, removed):
    """Return the number of a service after another one has been removed."""
    return service - 1 if service > removed else service


class Editor:
    """A system that can be changed, with undo, redo and checkpoints."""

    def __init__(self, system):
        check_system(system)
        self._timeline = Timeline(system)

    def _call(self, index):
        """Return the call with an index; raise UnknownCall if there is none."""
        calls = self.current_system()[1]
        if not is_number_within(index, 0, len(calls) - 1):
            raise UnknownCall("there is no call with this index")
        return calls[index]

    def _replace_call(self, index, call, operation):
        """Put a call, which must be valid, into the place of another one, and record this as an operation."""
        count, calls = self.current_system()
        if not is_call(call, count):
            raise InvalidCall("the call would be invalid")
        self._timeline.enter(operation, (count, calls[:index] + (call,) + calls[index + 1:]))

    def add_call(self, call):
        """Add a call at the end and return its index."""
        count, calls = self.current_system()
        if not is_call(call, count):
            raise InvalidCall("this is not a call of the system")
        if len(calls) >= MOST_CALLS:
            raise TooManyCalls("there are 20 calls already")
        self._timeline.enter(("add_call", call), (count, calls + (call,)))
        return len(calls)

    def remove_call(self, index):
        """Remove the call with an index and return it."""
        call = self._call(index)
        count, calls = self.current_system()
        self._timeline.enter(("remove_call", index), (count, calls[:index] + calls[index + 1:]))
        return call

    def set_offsets(self, index, offsets):
        """Change the offsets of a call and return the former ones."""
        call = self._call(index)
        self._replace_call(index, call[:2] + (offsets,) + call[3:], ("set_offsets", index, offsets))
        return call[2]

    def set_delays(self, index, least, most):
        """Change the least and the greatest delay of a call and return the former ones."""
        call = self._call(index)
        self._replace_call(index, call[:3] + (least, most), ("set_delays", index, least, most))
        return call[3:]

    def add_service(self):
        """Add a service with the greatest number and return this number."""
        count, calls = self.current_system()
        if count >= MOST_SERVICES:
            raise TooManyServices("there are 8 services already")
        self._timeline.enter(("add_service",), (count + 1, calls))
        return count

    def remove_service(self, service):
        """Remove a service without calls."""
        count, calls = self.current_system()
        if not is_number_within(service, 1, count - 1):
            raise UnknownService("there is no such service, or it is service 0")
        if any([service in call[:2] for call in calls]):
            raise ServiceInUse("a call has this service as its caller or target")
        left = [(without_number(call[0], service), without_number(call[1], service)) + call[2:] for call in calls]
        self._timeline.enter(("remove_service", service), (count - 1, tuple(left)))

    def current_system(self):
        """Return the system."""
        return self._timeline.state()

    def window_history(self):
        """Return the list of the least windows at the beginning and after each operation in effect."""
        return [least_windows(system) for system in self._timeline.states]

    def execute(self, operation):
        """Execute an operation, a tuple of its word and its arguments, and return its result."""
        match operation:
            case ["add_call", call]:
                return self.add_call(call)
            case ["remove_call", index]:
                return self.remove_call(index)
            case ["set_offsets", index, offsets]:
                return self.set_offsets(index, offsets)
            case ["set_delays", index, least, most]:
                return self.set_delays(index, least, most)
            case ["remove_service", service]:
                return self.remove_service(service)
        return self.add_service()

    def undo(self):
        """Undo the last operation in effect; return whether there was one."""
        return self._timeline.undo()

    def redo(self):
        """Execute the operation that was undone last once more; return whether there was one."""
        return self._timeline.redo()

    def history(self):
        """Return the list of the operations in effect, tuples of a word and the arguments."""
        return self._timeline.history()

    def save(self, name):
        """Save everything except for checkpoints under a name."""
        self._timeline.save(name)

    def restore(self, name):
        """Restore what was saved under a name."""
        self._timeline.restore(name)

    def checkpoints(self):
        """Return the ascending list of the names under which something was saved."""
        return self._timeline.checkpoints()

    def apply_all(self, operations):
        """Execute a list of operations and return the list of their results; if one fails, nothing changes."""
        return self._timeline.apply_all(self, operations, WORDS)

    def is_busy(self):
        """Return whether `apply_all` is running."""
        return self._timeline.busy
