"""Windows: their form, the least ones with which no service acts twice, and what given ones lead to."""

from onceonly.differences import act_times, difference_schedule, greatest_differences, longest_way, shortest_way
from onceonly.errors import InvalidGap, InvalidWindows
from onceonly.systems import calls_to, check_system, is_number_within, reachable_services

LONGEST_WINDOW = 9999
LONGEST_GAP = 9999


def check_windows(system, windows):
    """Raise InvalidSystem if there is no valid system, then InvalidWindows if these are not windows for it."""
    check_system(system)
    count = system[0]
    if not isinstance(windows, tuple):
        raise InvalidWindows(0)
    for index, window in enumerate(windows):
        if index >= count or not is_number_within(window, 0, LONGEST_WINDOW):
            raise InvalidWindows(index)
    if len(windows) < count:
        raise InvalidWindows(len(windows))


def deciding_pair(calls, apart, indexes):
    """Return the greatest difference of the arrival times of two different messages, and these two.

    The messages are those of the calls with some indexes, which lead to one service; `apart` is a dict
    from pairs of services to differences of act times. If no difference is greater than 0, this is
    (0, None).
    """
    best = (0, None)
    for late in indexes:
        for early in indexes:
            # Between these calls, messages of any other attempts arrive closer together.
            pair = ((late, len(calls[late][2]) - 1), (early, 0))
            between_callers = apart[calls[late][0], calls[early][0]]
            found = between_callers + longest_way(calls[late]) - shortest_way(calls[early])
            # The pairs come in ascending order, so the first of several equal ones is kept.
            if found > best[0] and pair[0] != pair[1]:
                best = (found, pair)
    return best


def deciding_pairs(system):
    """Return a list with the deciding pair of each service."""
    reached = reachable_services(system)
    count, calls = system
    table = greatest_differences(system)
    apart = {pair: table[pair][0] for pair in table}
    return [deciding_pair(calls, apart, calls_to(calls, reached, service)) for service in range(count)]


def least_windows(system):
    """Return the tuple of the least windows of all services."""
    return tuple([window for window, _ in deciding_pairs(system)])


def deciding_messages(system):
    """Return the list of the two messages (late, early) that decide each least window, or None."""
    return [pair for _, pair in deciding_pairs(system)]


def separate_arrivals(system, late, early):
    """Return a schedule in which two messages to one service arrive with their greatest difference."""
    calls = system[1]
    late_call, early_call = calls[late[0]], calls[early[0]]
    schedule = difference_schedule(system, late_call[0], early_call[0])
    schedule.append((0, 0, late[0], late[1], late_call[4]))
    schedule.append((0, 0, early[0], early[1], early_call[3]))
    return sorted(schedule)


def double_act(system, windows):
    """Return the first service whose window is too short and a schedule in which it acts twice, or None."""
    check_windows(system, windows)
    for service, (window, pair) in enumerate(deciding_pairs(system)):
        if windows[service] < window:
            late, early = pair
            return service, separate_arrivals(system, late, early)
    return None


def memory_spans(system, windows):
    """Return a dict from each reached service, in ascending order, to the length of a span of time.

    It begins at the earliest moment at which the service can act on a request, and ends at the last one
    at which it can remember the key because of this request.
    """
    times = act_times(system)
    return {service: windows[service] + times[service][1] - times[service][0] for service in times}


def memory_needs(system, windows, gap):
    """Return the list of the greatest numbers of keys that the services must remember at the same moment."""
    check_windows(system, windows)
    if not is_number_within(gap, 1, LONGEST_GAP):
        raise InvalidGap("a gap is an integer from 1 to 9999")
    needs = [0] * system[0]
    for service, span in memory_spans(system, windows).items():
        needs[service] = span // gap + 1
    return needs
