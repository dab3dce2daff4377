"""The rules of point 13 of the document, written without the program: all is found by playing from the start."""

import playing
from onceonly.errors import InvalidMessage, InvalidTime, TooLate


class Model:
    """What a runner must tell; operations return what they must return, or the class of the error."""

    def __init__(self, system, windows):
        self.system = system
        self.windows = windows
        self.times = []
        self.delays = {}
        self.time = -1
        self.executed = 0

    def schedule(self):
        return sorted(message + (delay,) for message, delay in self.delays.items())

    def all_events(self):
        """Return the events of all arrivals, also of those to come."""
        found = playing.play_requests(self.system, self.windows, self.times, self.schedule())
        return [(time, service, request, by is None) for time, service, request, by in found]

    def events(self):
        return self.all_events()[:self.executed]

    def act_times(self, service, request):
        return [event[0] for event in self.events() if event[1:] == (service, request, True)]

    def coming(self):
        arrivals = [(time, 0, (-1,), request) for request, time in enumerate(self.times)]
        for entry in self.schedule():
            caller, target, offsets = self.system[1][entry[2]][:3]
            acts = self.act_times(caller, entry[0])
            if entry[1] < len(acts):
                arrivals.append((acts[entry[1]] + offsets[entry[3]] + entry[4], target, entry[:4], entry[0]))
        return [(time, service, request) for time, service, _, request in sorted(arrivals)[self.executed:]]

    def remembering(self):
        told = []
        for service in range(self.system[0]):
            acts = [time for time, at, _, is_act in self.events() if at == service and is_act]
            told.append(bool(acts) and self.time <= acts[-1] + self.windows[service])
        return told

    def tell(self):
        events = self.events()
        counts = [len([0 for event in events if event[1] == service and event[3]]) for service in range(self.system[0])]
        return (self.time, events, counts, self.remembering(), self.coming(), self.schedule())

    def add_request(self, time):
        if not playing.is_plain(time, 0, 99999) or len(self.times) == 9:
            return InvalidTime
        if any(time <= other for other in self.times + [self.time]):
            return TooLate
        self.times.append(time)
        return len(self.times) - 1

    def is_message(self, message):
        request, act, index, attempt = message
        return (playing.is_plain(request, 0, len(self.times) - 1) and playing.is_plain(act, 0, 99)
                and playing.is_plain(index, 0, len(self.system[1]) - 1)
                and playing.is_plain(attempt, 0, len(self.system[1][index][2]) - 1))

    def is_sent(self, message):
        request, act, index, attempt = message
        acts = self.act_times(self.system[1][index][0], request)
        return act < len(acts) and acts[act] + self.system[1][index][2][attempt] <= self.time

    def deliver(self, message, delay):
        if not self.is_message(message) or not playing.is_plain(delay, *self.system[1][message[2]][3:]):
            return InvalidMessage
        if self.is_sent(message):
            return TooLate
        self.delays[message] = delay
        return None

    def lose(self, message):
        if not self.is_message(message):
            return InvalidMessage
        if self.is_sent(message):
            return TooLate
        self.delays.pop(message, None)
        return None

    def step(self):
        if not self.coming():
            return None
        self.executed += 1
        self.time = self.events()[-1][0]
        return self.events()[-1]

    def run_to(self, time):
        if not playing.is_plain(time, 0, 99999):
            return InvalidTime
        if time < self.time:
            return TooLate
        before = self.executed
        self.executed = len([event for event in self.all_events() if event[0] <= time])
        self.time = time
        return self.events()[before:]


def tell(runner):
    """Return all that a runner tells of its state, as `Model.tell` does."""
    return (runner.current_time(), runner.all_events(), runner.act_counts(), runner.remembering(), runner.coming(),
            runner.schedule())


METHODS = {"request": "add_request", "deliver": "deliver", "lose": "lose", "step": "step", "run": "run_to"}


def execute(subject, operation):
    """Call the method of a runner or a model for an operation."""
    return getattr(subject, METHODS[operation[0]])(*operation[1:])


def made_message(chance, model):
    """Return a message that chance makes, mostly of the present requests."""
    index = chance.randrange(max(1, len(model.system[1])))
    attempts = len(model.system[1][index][2]) if model.system[1] else 1
    request = chance.randrange(len(model.times) + chance.choice([0, 0, 0, 0, 0, 1]) or 1)
    return (request, chance.choice([0, 0, 0, 1, 1, 2, 3]), index, chance.randrange(attempts))


def made_operation(chance, model):
    """Return an operation that chance makes, which can fail."""
    word = chance.choice(["request", "deliver", "deliver", "deliver", "lose", "step", "step", "step", "run"])
    if word == "step":
        return (word,)
    if word == "run":
        return (word, model.time + chance.choice([0, 0, 1, 2, 3, 5, 9, -1]))
    if word == "request":
        return (word, max(model.times + [model.time]) + chance.choice([0, 1, 1, 2, 3, 9]))
    message = made_message(chance, model)
    if word == "lose":
        return (word, message)
    least, most = model.system[1][message[2]][3:] if model.system[1] else (0, 9)
    return (word, message, chance.randint(least, most + chance.choice([0, 0, 0, 0, 1])))
