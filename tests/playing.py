"""The rules of points 3, 4 and 12 of the document, written without the program."""

import heapq
import itertools


def is_plain(value, low, high):
    return isinstance(value, int) and not isinstance(value, bool) and low <= value <= high


def is_valid_schedule(system, schedule, requests=1):
    """Tell whether this is a schedule that needs no second act of a service on one of the requests."""
    calls = system[1]
    if not isinstance(schedule, list):
        return False
    for entry in schedule:
        if not isinstance(entry, tuple) or len(entry) != 5:
            return False
        request, act, index, attempt, delay = entry
        if not (is_plain(request, 0, requests - 1) and is_plain(act, 0, 0) and is_plain(index, 0, len(calls) - 1)):
            return False
        offsets, least, most = calls[index][2:]
        if not (is_plain(attempt, 0, len(offsets) - 1) and is_plain(delay, least, most)):
            return False
    return all(first[:4] < second[:4] for first, second in zip(schedule, schedule[1:]))


def play(system, windows, schedule):
    """Return a list with the list of the act times of each service, for a request at time 0."""
    count, calls = system
    arrivals = [[] for _ in range(count)]
    arrivals[0].append(0)
    acts = [[] for _ in range(count)]
    for service in range(count):
        for time in sorted(arrivals[service]):
            if not acts[service] or time > acts[service][-1] + windows[service]:
                acts[service].append(time)
        for _, act, index, attempt, delay in schedule:
            caller, target, offsets = calls[index][:3]
            if caller == service and act < len(acts[service]):
                arrivals[target].append(acts[service][act] + offsets[attempt] + delay)
    return acts


def all_schedules(system):
    """Return every schedule of a single request in which no service acts twice."""
    choices = []
    for index, (_, _, offsets, least, most) in enumerate(system[1]):
        for attempt in range(len(offsets)):
            choices.append([None] + [(0, 0, index, attempt, delay) for delay in range(least, most + 1)])
    for schedule in itertools.product(*choices):
        yield [entry for entry in schedule if entry is not None]


def tried_differences(system):
    """Return a dict from pairs of services to their greatest difference, found by trying every schedule."""
    count = system[0]
    found = {}
    for schedule in all_schedules(system):
        acts = play(system, (9999,) * count, schedule)
        acted = [service for service in range(count) if acts[service]]
        for service in acted:
            for other in acted:
                apart = acts[service][0] - acts[other][0]
                found[service, other] = max(apart, found.get((service, other), apart))
    return found


def tried_act_times(system):
    """Return a dict from services to their earliest and latest act times, found by trying every schedule."""
    times = {}
    for schedule in all_schedules(system):
        for service, acts in enumerate(play(system, (9999,) * system[0], schedule)):
            if acts:
                low, high = times.get(service, (acts[0], acts[0]))
                times[service] = (min(low, acts[0]), max(high, acts[0]))
    return times


def play_requests(system, windows, times, schedule):
    """Return a list of all arrivals of requests with the same key: tuples (time, service, request, remembered).

    The last item is the number of the request because of which the service remembers the key; it is
    None if the service acts.
    """
    count, calls = system
    # An arrival is sorted by its time, its service, and then by its request or its schedule entry.
    coming = [(time, 0, (-1, request), request) for request, time in enumerate(times)]
    heapq.heapify(coming)
    memory = [None] * count
    acted = {}
    events = []
    while coming:
        time, service, _, request = heapq.heappop(coming)
        if memory[service] is not None and time <= memory[service][0] + windows[service]:
            events.append((time, service, request, memory[service][1]))
            continue
        events.append((time, service, request, None))
        memory[service] = (time, request)
        number = acted.get((service, request), 0)
        acted[service, request] = number + 1
        for entry in schedule:
            caller, target, offsets = calls[entry[2]][:3]
            if caller == service and entry[:2] == (request, number):
                heapq.heappush(coming, (time + offsets[entry[3]] + entry[4], target, entry[:4], request))
    return events


def messages(system):
    """Return the list of all messages (call, attempt) of single acts."""
    return [(index, attempt) for index, call in enumerate(system[1]) for attempt in range(len(call[2]))]


def number_of_schedules(system):
    """Return the length of the list of all schedules."""
    number = 1
    for index, _ in messages(system):
        number *= system[1][index][4] - system[1][index][3] + 2
    return number
