"""Systems of services that call each other: their form and their reached services."""

from onceonly.errors import InvalidSystem, UnknownService

MOST_SERVICES = 8
MOST_CALLS = 20
MOST_OFFSETS = 4
LAST_TICK = 99
LAST_TIME = 99999


def is_number(value):
    """Tell whether a value is an integer; True and False are not numbers."""
    return isinstance(value, int) and not isinstance(value, bool)


def is_number_within(value, low, high):
    """Tell whether a value is an integer from `low` to `high`."""
    return is_number(value) and low <= value <= high


def are_offsets(value):
    """Tell whether a value can be the offsets of a call."""
    if not isinstance(value, tuple) or not 1 <= len(value) <= MOST_OFFSETS:
        return False
    low = 0
    for offset in value:
        if not is_number_within(offset, low, LAST_TICK):
            return False
        low = offset + 1
    return True


def is_call(value, count):
    """Tell whether a value is a call of a system with `count` services."""
    if not isinstance(value, tuple) or len(value) != 5:
        return False
    caller, target, offsets, least, most = value
    return (
        is_number_within(caller, 0, count - 1)
        and is_number_within(target, caller + 1, count - 1)
        and are_offsets(offsets)
        and is_number_within(least, 0, LAST_TICK)
        and is_number_within(most, least, LAST_TICK)
    )


def check_system(system):
    """Raise InvalidSystem if the argument is not a system."""
    if not isinstance(system, tuple) or len(system) != 2:
        raise InvalidSystem("system", 0)
    count, calls = system
    if not is_number_within(count, 1, MOST_SERVICES):
        raise InvalidSystem("count", 0)
    if not isinstance(calls, tuple):
        raise InvalidSystem("calls", 0)
    for index, call in enumerate(calls):
        if index >= MOST_CALLS or not is_call(call, count):
            raise InvalidSystem("calls", index)


def calls_to(calls, callers, target):
    """Return the indexes of the calls from some callers to a target."""
    return [index for index, call in enumerate(calls) if call[0] in callers and call[1] == target]


def reachable_services(system):
    """Return the ascending list of the reached services."""
    check_system(system)
    count, calls = system
    reached = [0]
    # Callers have smaller numbers than their targets, so one ascending pass finds all services.
    for service in range(1, count):
        if calls_to(calls, reached, service):
            reached.append(service)
    return reached


def check_service(system, service):
    """Raise InvalidSystem if there is no valid system, then UnknownService if the service is not reached."""
    reached = reachable_services(system)
    if not is_number(service) or service not in reached:
        raise UnknownService("this is not a reached service")
