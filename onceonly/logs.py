"""Logs: what can have caused the acts on a single request, and what must have been lost."""

from onceonly.errors import ImpossibleLog, InvalidLog
from onceonly.systems import LAST_TIME, check_system, is_number_within
from onceonly.windows import check_windows


def is_log_item(service, value):
    """Tell whether a value can be the item of a service in a log."""
    if service == 0:
        return is_number_within(value, 0, 0)
    return value is None or is_number_within(value, 0, LAST_TIME)


def check_log(system, log):
    """Raise InvalidLog if this is not a log for a valid system."""
    count = system[0]
    if not isinstance(log, list):
        raise InvalidLog(0)
    for index, value in enumerate(log):
        if index >= count or not is_log_item(index, value):
            raise InvalidLog(index)
    if len(log) < count:
        raise InvalidLog(len(log))


def least_delay(call, attempt, window, log):
    """Return the least delay with which a message agrees with a log, or None if it must be lost.

    It may arrive at the moment of the act of its target, or as long as the target remembers the key.
    """
    caller, target, offsets, least, most = call
    if log[target] is None:
        return None
    sent = log[caller] + offsets[attempt]
    delay = max(least, log[target] - sent)
    if delay > most or sent + delay > log[target] + window:
        return None
    return delay


def least_delays(system, windows, log):
    """Return a dict from all messages of the services that acted, in ascending order, to their least delays."""
    delays = {}
    for index, call in enumerate(system[1]):
        if log[call[0]] is not None:
            for attempt in range(len(call[2])):
                delays[index, attempt] = least_delay(call, attempt, windows[call[1]], log)
    return delays


def explanations(system, log):
    """Return the list of the messages that can have caused each act."""
    check_system(system)
    check_log(system, log)
    count, calls = system
    causes = [[] for _ in range(count)]
    # If windows are 0, only messages that can arrive at the moment of the act agree with the log.
    for (index, attempt), delay in least_delays(system, (0,) * count, log).items():
        if delay is not None:
            causes[calls[index][1]].append((index, attempt))
    return causes


def check_possible(system, windows, log):
    """Raise the errors of wrong arguments, then ImpossibleLog if an act has no explanation."""
    check_windows(system, windows)
    causes = explanations(system, log)
    for service in range(1, system[0]):
        if log[service] is not None and not causes[service]:
            raise ImpossibleLog(service)


def lost_messages(system, windows, log):
    """Return the ascending list of the messages that must have been lost."""
    check_possible(system, windows, log)
    delays = least_delays(system, windows, log)
    return [message for message in delays if delays[message] is None]


def explain_log(system, windows, log):
    """Return the schedule that explains a log with the fewest losses and the least delays."""
    check_possible(system, windows, log)
    delays = least_delays(system, windows, log)
    # The messages that cause an act are among those that arrive: their least delays lead to its moment.
    return [(0, 0, call, attempt, delays[call, attempt]) for call, attempt in delays
            if delays[call, attempt] is not None]
