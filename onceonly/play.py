"""The play of requests with one key: what arrives when, and which services act."""

from heapq import heappop, heappush


class Play:
    """Requests with one key while they are played, and what is decided about their messages.

    Messages are tuples (request, act, call, attempt); `delays` holds those that are not lost. `queue` is
    a heap of all arrivals that follow from the acts so far and from the requests. An arrival is a tuple
    (time, service, origin), whose origin is a message or, for a request, the tuple of its number.
    """

    def __init__(self, system, windows):
        self.system = system
        self.windows = windows
        self.time = -1
        self.request_times = []
        self.delays = {}
        self.queue = []
        self.events = []
        # From tuples (service, request) to the tuples of the times of their acts.
        self.acts = {}
        # The time of the last act of each service.
        self.latest = [None] * system[0]

    def copied(self):
        """Return a copy, which can be played further without a change of this one."""
        twin = Play(self.system, self.windows)
        twin.time = self.time
        twin.request_times = list(self.request_times)
        twin.delays = {message: self.delays[message] for message in self.delays}
        twin.queue = list(self.queue)
        twin.events = list(self.events)
        twin.acts = {pair: self.acts[pair] for pair in self.acts}
        twin.latest = list(self.latest)
        return twin

    def add_request(self, time):
        """Let another request arrive at a time."""
        # Requests arrive at service 0 only, and messages at other services only. So arrivals at the same
        # time and service are in the order of their origins.
        heappush(self.queue, (time, 0, (len(self.request_times),)))
        self.request_times.append(time)

    def sending_time(self, message):
        """Return the time at which a message is sent, or None if its act has not occurred."""
        request, act, index, attempt = message
        caller, _, offsets, _, _ = self.system[1][index]
        times = self.acts.get((caller, request), ())
        return times[act] + offsets[attempt] if act < len(times) else None

    def expect(self, message):
        """Let the arrival of a message come if its act has occurred and it is not lost."""
        sent = self.sending_time(message)
        if sent is not None and message in self.delays:
            heappush(self.queue, (sent + self.delays[message], self.system[1][message[2]][1], message))

    def decide(self, message, delay):
        """Let a message arrive with a delay or, if this is None, be lost, instead of what was decided before."""
        if message in self.delays:
            del self.delays[message]
            # A list that is sorted is a heap.
            self.queue = sorted([arrival for arrival in self.queue if arrival[2] != message])
        if delay is not None:
            self.delays[message] = delay
            self.expect(message)

    def remembers(self, service, time):
        """Tell whether a service remembers the key at a time, because of the acts so far."""
        return self.latest[service] is not None and time <= self.latest[service] + self.windows[service]

    def perform_act(self, time, service, request):
        """Let a service act on a request and send its messages."""
        earlier = self.acts.get((service, request), ())
        self.acts[service, request] = earlier + (time,)
        self.latest[service] = time
        for index, call in enumerate(self.system[1]):
            if call[0] == service:
                for attempt in range(len(call[2])):
                    self.expect((request, len(earlier), index, attempt))

    def execute_next(self):
        """Execute the next arrival, of which there must be one, and return its event."""
        time, service, origin = heappop(self.queue)
        request = origin[0]
        is_act = not self.remembers(service, time)
        if is_act:
            self.perform_act(time, service, request)
        self.time = time
        self.events.append((time, service, request, is_act))
        return time, service, request, is_act

    def execute_until(self, time):
        """Execute all arrivals up to a time and return the list of their events."""
        many = len(self.events)
        while self.queue and self.queue[0][0] <= time:
            self.execute_next()
        self.time = time
        return self.events[many:]

    def numbers_of_acts(self):
        """Return a list with the number of acts of each service."""
        numbers = [0] * self.system[0]
        for service, request in self.acts:
            numbers[service] += len(self.acts[service, request])
        return numbers
