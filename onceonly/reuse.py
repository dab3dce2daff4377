"""Using a key again: how long after a request no service ignores another one with the same key."""

from onceonly.differences import difference_schedule
from onceonly.windows import check_windows, memory_spans


def least_reuse_time(system, windows):
    """Return the least time after which a key may be used again."""
    check_windows(system, windows)
    return max(memory_spans(system, windows).values()) + 1


def reuse_conflict(system, windows):
    """Return a service and a schedule in which it ignores a second request one tick earlier."""
    check_windows(system, windows)
    spans = memory_spans(system, windows)
    longest = max(spans.values())
    service = min([reached for reached in spans if spans[reached] == longest])
    # The first request comes as late as possible, the second one as early as possible. On the way, no
    # service stops the second one: it would be an earlier service with the longest span.
    first = difference_schedule(system, service, 0)
    second = difference_schedule(system, 0, service)
    return service, first + [(1, act, call, attempt, delay) for _, act, call, attempt, delay in second]
