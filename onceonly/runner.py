"""Runners: requests that are run step by step, while it is decided which messages arrive."""

from onceonly.errors import InvalidMessage, InvalidTime, TooLate
from onceonly.play import Play
from onceonly.schedules import MOST_REQUESTS, is_delay, is_message
from onceonly.systems import LAST_TIME, is_number_within
from onceonly.timeline import Timeline
from onceonly.windows import check_windows

# The words of the operations, and their numbers of arguments.
WORDS = (("request", 1), ("deliver", 2), ("lose", 1), ("step", 0), ("run", 1))


class Runner:
    """Requests with one key that are run step by step, with undo, redo and checkpoints."""

    def __init__(self, system, windows):
        check_windows(system, windows)
        self._calls = system[1]
        self._timeline = Timeline(Play(system, windows))

    def _play(self):
        """Return the present play, which must not be modified."""
        return self._timeline.state()

    def _check_message(self, message):
        """Raise InvalidMessage if this is not a message of one of the present requests."""
        if not is_message(message, self._calls, len(self._play().request_times)):
            raise InvalidMessage("there is no such message of the present requests")

    def _decide(self, operation, message, delay):
        """Decide about a message that has not been sent, and record this as an operation."""
        sent = self._play().sending_time(message)
        if sent is not None and sent <= self._play().time:
            raise TooLate("the message has been sent")
        play = self._play().copied()
        play.decide(message, delay)
        self._timeline.enter(operation, play)

    def add_request(self, time):
        """Let a request arrive at a time and return its number."""
        times = self._play().request_times
        if not is_number_within(time, 0, LAST_TIME):
            raise InvalidTime("a request arrives at an integer from 0 to 99999")
        if len(times) >= MOST_REQUESTS:
            raise InvalidTime("there are nine requests already")
        if time <= max([self._play().time] + times):
            raise TooLate("a request comes after the present time and all other requests")
        play = self._play().copied()
        play.add_request(time)
        self._timeline.enter(("request", time), play)
        return len(times)

    def deliver(self, message, delay):
        """Let a message arrive with a delay, instead of what was decided before."""
        self._check_message(message)
        if not is_delay(delay, self._calls[message[2]]):
            raise InvalidMessage("the message cannot have this delay")
        self._decide(("deliver", message, delay), message, delay)

    def lose(self, message):
        """Let a message be lost, instead of what was decided before."""
        self._check_message(message)
        self._decide(("lose", message), message, None)

    def step(self):
        """Execute the next arrival and return its event, or None if no arrival is to come."""
        if not self._play().queue:
            return None
        play = self._play().copied()
        event = play.execute_next()
        self._timeline.enter(("step",), play)
        return event

    def run_to(self, time):
        """Execute all arrivals up to a time and return the list of their events."""
        if not is_number_within(time, 0, LAST_TIME):
            raise InvalidTime("a runner runs to an integer from 0 to 99999")
        if time < self._play().time:
            raise TooLate("the time has passed")
        play = self._play().copied()
        events = play.execute_until(time)
        self._timeline.enter(("run", time), play)
        return events

    def current_time(self):
        """Return the time of the runner."""
        return self._play().time

    def all_events(self):
        """Return the list of all events so far."""
        return list(self._play().events)

    def act_counts(self):
        """Return a list with the number of acts of each service."""
        return self._play().numbers_of_acts()

    def remembering(self):
        """Return a list that tells for each service whether it remembers the key now."""
        play = self._play()
        return [play.remembers(service, play.time) for service in range(play.system[0])]

    def coming(self):
        """Return the list of all arrivals (time, service, request) that follow from the acts and the requests."""
        return [(time, service, origin[0]) for time, service, origin in sorted(self._play().queue)]

    def schedule(self):
        """Return the schedule of all messages that are not lost."""
        delays = self._play().delays
        return [message + (delays[message],) for message in sorted(delays)]

    def execute(self, operation):
        """Execute an operation, a tuple of its word and its arguments, and return its result."""
        match operation:
            case ["request", time]:
                return self.add_request(time)
            case ["deliver", message, delay]:
                return self.deliver(message, delay)
            case ["lose", message]:
                return self.lose(message)
            case ["run", time]:
                return self.run_to(time)
        return self.step()

    def undo(self):
        """Undo the last operation in effect; return whether there was one."""
        return self._timeline.undo()

    def redo(self):
        """Execute the operation that was undone last once more; return whether there was one."""
        return self._timeline.redo()

    def history(self):
        """Return the list of the operations in effect, tuples of a word and the arguments."""
        return self._timeline.history()

    def save(self, name):
        """Save everything except for checkpoints under a name."""
        self._timeline.save(name)

    def restore(self, name):
        """Restore what was saved under a name."""
        self._timeline.restore(name)

    def checkpoints(self):
        """Return the ascending list of the names under which something was saved."""
        return self._timeline.checkpoints()

    def apply_all(self, operations):
        """Execute a list of operations and return the list of their results; if one fails, nothing changes."""
        return self._timeline.apply_all(self, operations, WORDS)

    def is_busy(self):
        """Return whether `apply_all` is running."""
        return self._timeline.busy
