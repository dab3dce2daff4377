"""The greatest differences between the act times of services that act once on a single request."""

from onceonly.systems import calls_to, check_service, reachable_services


def shortest_way(call):
    """Return the least time from the act of the caller to an arrival at the target."""
    offsets, least = call[2], call[3]
    return offsets[0] + least


def longest_way(call):
    """Return the greatest time from the act of the caller to an arrival at the target."""
    offsets, most = call[2], call[4]
    return offsets[-1] + most


def late_choices(calls, indexes, table, other):
    """Return a tuple (difference, call) for each of some calls by which the greater service acts late."""
    return [(table[calls[index][0], other][0] + longest_way(calls[index]), index) for index in indexes]


def early_choices(calls, indexes, table, other):
    """Return a tuple (difference, call) for each of some calls by which the greater service acts early."""
    return [(table[other, calls[index][0]][0] - shortest_way(calls[index]), index) for index in indexes]


def greatest_differences(system):
    """Return a dict from all pairs of reached services to tuples (difference, call).

    The call leads to the greater service of the pair and decides the difference; it is None
    for a service and itself.
    """
    reached = reachable_services(system)
    calls = system[1]
    table = {}
    # No way to the smaller service passes the greater one. So the call by which the greater one
    # acts can be chosen freely, and only the difference to the caller is left.
    for service in reached:
        indexes = calls_to(calls, reached, service)
        for other in reached:
            if other < service:
                table[service, other] = max(late_choices(calls, indexes, table, other))
                table[other, service] = max(early_choices(calls, indexes, table, other))
        table[service, service] = (0, None)
    return table


def difference(system, service, other):
    """Return the greatest difference of the act times of two services."""
    check_service(system, service)
    check_service(system, other)
    return greatest_differences(system)[service, other][0]


def separate_entries(calls, table, service, other):
    """Return the entries that decide a difference, and the service at which the ways of both meet."""
    entries = []
    while service != other:
        index = table[service, other][1]
        caller, target, offsets, least, most = calls[index]
        if target == service:
            entries.append((0, 0, index, len(offsets) - 1, most))
            service = caller
        else:
            entries.append((0, 0, index, 0, least))
            other = caller
    return entries, service


def difference_schedule(system, service, other):
    """Return a schedule in which two services act with their greatest difference."""
    check_service(system, service)
    check_service(system, other)
    calls = system[1]
    table = greatest_differences(system)
    entries, meeting = separate_entries(calls, table, service, other)
    # The way that both share does not change the difference, but without it neither acts.
    shared, _ = separate_entries(calls, table, meeting, 0)
    return sorted(entries + shared)


def act_times(system):
    """Return a dict from each reached service to the tuple of its earliest and latest act time."""
    table = greatest_differences(system)
    return {service: (-table[0, service][0], table[service, 0][0]) for service in reachable_services(system)}
