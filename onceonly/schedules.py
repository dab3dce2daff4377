"""The form of schedules, of their messages, and of the times of requests."""

from onceonly.errors import InvalidSchedule, InvalidTimes
from onceonly.systems import LAST_TIME, is_number_within

LAST_ACT = 99
MOST_REQUESTS = 9


def is_message(value, calls, requests):
    """Tell whether a value is a message (request, act, call, attempt) of one of so many requests."""
    if not isinstance(value, tuple) or len(value) != 4:
        return False
    request, act, index, attempt = value
    return (
        is_number_within(request, 0, requests - 1)
        and is_number_within(act, 0, LAST_ACT)
        and is_number_within(index, 0, len(calls) - 1)
        and is_number_within(attempt, 0, len(calls[index][2]) - 1)
    )


def is_delay(value, call):
    """Tell whether a value is a delay of the messages of a call."""
    least, most = call[3:]
    return is_number_within(value, least, most)


def is_entry(value, calls, requests):
    """Tell whether a value is an entry of a schedule for so many requests."""
    if not isinstance(value, tuple) or len(value) != 5 or not is_message(value[:4], calls, requests):
        return False
    return is_delay(value[4], calls[value[2]])


def check_schedule(schedule, calls, requests):
    """Raise InvalidSchedule if this is not a schedule for so many requests."""
    if not isinstance(schedule, list):
        raise InvalidSchedule(0)
    before = ()
    for index, entry in enumerate(schedule):
        if not is_entry(entry, calls, requests) or entry[:4] <= before:
            raise InvalidSchedule(index)
        before = entry[:4]


def check_times(times):
    """Raise InvalidTimes if these are not the times of requests."""
    if not isinstance(times, list) or not times:
        raise InvalidTimes(0)
    low = 0
    for index, time in enumerate(times):
        if index >= MOST_REQUESTS or not is_number_within(time, low, LAST_TIME):
            raise InvalidTimes(index)
        low = time + 1
