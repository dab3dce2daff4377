"""Tables of differences of act times, which show entry by entry that windows suffice."""

from onceonly.differences import greatest_differences, longest_way, shortest_way
from onceonly.errors import InvalidTable
from onceonly.systems import calls_to, is_number_within, reachable_services
from onceonly.windows import check_windows, deciding_pair

GREATEST_ENTRY = 9999


def difference_table(system):
    """Return the table of all greatest differences, with None where a service is not reached."""
    table = greatest_differences(system)
    services = list(range(system[0]))
    return [[table.get((row, column), (None, None))[0] for column in services] for row in services]


def is_entry(value, of_reached):
    """Tell whether a value can be an entry; `of_reached` tells whether both of its services are reached."""
    if not of_reached:
        return value is None
    return is_number_within(value, -GREATEST_ENTRY, GREATEST_ENTRY)


def check_row(system, table, row):
    """Raise InvalidTable if a row of a table is missing or invalid."""
    reached = reachable_services(system)
    if row >= len(table) or not isinstance(table[row], list) or len(table[row]) != system[0]:
        raise InvalidTable(row, 0)
    for column, value in enumerate(table[row]):
        if not is_entry(value, row in reached and column in reached):
            raise InvalidTable(row, column)


def check_table(system, table):
    """Raise InvalidTable if this is not a table for a valid system."""
    count = system[0]
    if not isinstance(table, list):
        raise InvalidTable(0, 0)
    for row in range(count):
        check_row(system, table, row)
    if len(table) > count:
        raise InvalidTable(count, 0)


def least_entry(calls, indexes, apart, pair):
    """Return the least entry of a pair of services that the entries of the callers allow.

    The calls with the given indexes are those to the greater service of the pair.
    """
    service, other = pair
    if service == other:
        return 0
    if service > other:
        return max([apart[calls[index][0], other] + longest_way(calls[index]) for index in indexes])
    return max([apart[service, calls[index][0]] - shortest_way(calls[index]) for index in indexes])


def check_certificate(system, windows, table):
    """Return None if a table shows that windows suffice, otherwise what is too small or too short."""
    check_windows(system, windows)
    check_table(system, table)
    reached = reachable_services(system)
    calls = system[1]
    apart = {(row, column): table[row][column] for row in reached for column in reached}
    incoming = {service: calls_to(calls, reached, service) for service in reached}
    for pair in apart:
        if apart[pair] < least_entry(calls, incoming[max(pair)], apart, pair):
            return "entry", pair[0], pair[1]
    for service in reached:
        if windows[service] < deciding_pair(calls, apart, incoming[service])[0]:
            return "window", service
    return None
