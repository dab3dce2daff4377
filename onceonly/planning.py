"""Planning: what the least windows are without some attempts, and which attempts must be dropped."""

from itertools import combinations

from onceonly.errors import TooManyAttempts
from onceonly.systems import check_system
from onceonly.windows import check_windows, least_windows

MOST_ATTEMPTS = 10


def spare_attempts(calls):
    """Return the ascending list of the attempts (call, attempt) that are not the only ones of their calls."""
    return [(index, attempt) for index, call in enumerate(calls) if len(call[2]) > 1
            for attempt in range(len(call[2]))]


def without_attempts(system, dropped):
    """Return what is left of a system without some attempts; calls can be left without any attempt."""
    count, calls = system
    left = []
    for index, (caller, target, offsets, least, most) in enumerate(calls):
        kept = [offset for attempt, offset in enumerate(offsets) if (index, attempt) not in dropped]
        left.append((caller, target, tuple(kept), least, most))
    return count, tuple(left)


def drop_effects(system):
    """Return a list of tuples (attempt, windows): the least windows without each attempt that can be dropped."""
    check_system(system)
    return [(attempt, least_windows(without_attempts(system, [attempt]))) for attempt in spare_attempts(system[1])]


def fits(system, limits):
    """Tell whether each call has an attempt and no least window is greater than its limit."""
    if any([not call[2] for call in system[1]]):
        return False
    return all([window <= limit for window, limit in zip(least_windows(system), limits)])


def fit_windows(system, limits):
    """Return the list of the fewest attempts to drop so that the least windows fit into limits, or None."""
    check_windows(system, limits)
    calls = system[1]
    if sum([len(call[2]) for call in calls]) > MOST_ATTEMPTS:
        raise TooManyAttempts("the calls have more than 10 attempts in total")
    spare = spare_attempts(calls)
    # The choices come in the order of their lengths, and in list order, so the first one that fits is wanted.
    for many in range(len(spare) + 1):
        for dropped in combinations(spare, many):
            if fits(without_attempts(system, dropped), limits):
                return list(dropped)
    return None
