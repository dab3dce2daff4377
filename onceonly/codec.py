"""The bytes of systems, windows and schedules."""

from onceonly.errors import DecodeError, InvalidCount
from onceonly.schedules import LAST_ACT, MOST_REQUESTS, check_schedule
from onceonly.systems import LAST_TICK, MOST_CALLS, MOST_OFFSETS, MOST_SERVICES, check_system, is_number_within
from onceonly.windows import LONGEST_WINDOW, check_windows

SYSTEM_MARK = 83
SCHEDULE_MARK = 77
LAST_BYTE = 255
MOST_ENTRIES = 200


def pack_bytes(values):
    """Return the bytes with the values of a list."""
    if not isinstance(values, list) or not all([is_number_within(value, 0, LAST_BYTE) for value in values]):
        raise InvalidCount("bytes are made of a list of integers from 0 to 255")
    return bytes(values)


def unpack_bytes(data):
    """Return the list of the values of bytes."""
    return list(data)


def checksum_of(values):
    """Return the checksum of the values of bytes."""
    checksum = 0
    for value in values:
        checksum = int(3 * checksum + value) % 251
    return checksum


def packed_with_checksum(values):
    """Return the bytes with some values and their checksum."""
    return pack_bytes(values + [checksum_of(values)])


def values_of_call(call):
    """Return the values of the bytes of a call."""
    caller, target, offsets, least, most = call
    further = [offset - before for before, offset in zip(offsets, offsets[1:])]
    return [caller, target, len(offsets), offsets[0]] + further + [least, most - least]


def encode_system(system, windows):
    """Return the bytes of a system and windows."""
    check_windows(system, windows)
    count, calls = system
    values = [SYSTEM_MARK, count, len(calls)]
    for call in calls:
        values.extend(values_of_call(call))
    for window in windows:
        values.extend([window // (LAST_BYTE + 1), window & LAST_BYTE])
    return packed_with_checksum(values)


def encode_schedule(system, requests, schedule):
    """Return the bytes of a schedule for a number of requests."""
    check_system(system)
    if not is_number_within(requests, 1, MOST_REQUESTS):
        raise InvalidCount("there are 1 to 9 requests")
    calls = system[1]
    check_schedule(schedule, calls, requests)
    if len(schedule) > MOST_ENTRIES:
        raise InvalidCount("bytes hold at most 200 entries")
    values = [SCHEDULE_MARK, requests, len(schedule)]
    for request, act, index, attempt, delay in schedule:
        values.extend([request, act, index, attempt, delay - calls[index][3]])
    return packed_with_checksum(values)


class ByteReader:
    """Bytes that are read from left to right; `offset` is that of the next one."""

    def __init__(self, data):
        self.data = data
        self.offset = 0

    def take(self, low, high):
        """Return the next byte; raise DecodeError if it is missing or not from `low` to `high`."""
        if self.offset >= len(self.data) or not low <= self.data[self.offset] <= high:
            raise DecodeError(self.offset)
        self.offset += 1
        return self.data[self.offset - 1]

    def finish(self):
        """Read the checksum, behind which there must be no byte."""
        checksum = checksum_of(self.data[:self.offset])
        self.take(checksum, checksum)
        if self.offset < len(self.data):
            raise DecodeError(self.offset)


def take_offsets(reader):
    """Read the offsets of a call."""
    many = reader.take(1, MOST_OFFSETS)
    offsets = [reader.take(0, LAST_TICK + 1 - many)]
    for remaining in reversed(range(many - 1)):
        # Each of the remaining offsets is at least 1 greater than the one before it.
        offsets.append(offsets[-1] + reader.take(1, LAST_TICK - remaining - offsets[-1]))
    return tuple(offsets)


def take_call(reader, count):
    """Read a call of a system with so many services."""
    # The last service cannot call any other one.
    caller = reader.take(0, count - 2)
    target = reader.take(caller + 1, count - 1)
    offsets = take_offsets(reader)
    least = reader.take(0, LAST_TICK)
    return (caller, target, offsets, least, least + reader.take(0, LAST_TICK - least))


def take_window(reader):
    """Read a window."""
    high = (LAST_BYTE + 1) * reader.take(0, LONGEST_WINDOW // (LAST_BYTE + 1))
    return high + reader.take(0, min(LAST_BYTE, LONGEST_WINDOW - high))


def decode_system(data):
    """Return the tuple of the system and the windows of bytes."""
    reader = ByteReader(data)
    reader.take(SYSTEM_MARK, SYSTEM_MARK)
    count = reader.take(1, MOST_SERVICES)
    many = reader.take(0, MOST_CALLS if count > 1 else 0)
    calls = tuple([take_call(reader, count) for _ in range(many)])
    windows = tuple([take_window(reader) for _ in range(count)])
    reader.finish()
    return (count, calls), windows


def take_entry(reader, calls, requests, before):
    """Read an entry of a schedule whose first four numbers are greater than those in `before`."""
    start = reader.offset
    request = reader.take(0, requests - 1)
    act = reader.take(0, LAST_ACT)
    index = reader.take(0, len(calls) - 1)
    _, _, offsets, least, most = calls[index]
    attempt = reader.take(0, len(offsets) - 1)
    if (request, act, index, attempt) <= before:
        raise DecodeError(start)
    return (request, act, index, attempt, least + reader.take(0, most - least))


def decode_schedule(system, data):
    """Return the tuple of the number of requests and the schedule of bytes."""
    check_system(system)
    calls = system[1]
    reader = ByteReader(data)
    reader.take(SCHEDULE_MARK, SCHEDULE_MARK)
    requests = reader.take(1, MOST_REQUESTS)
    many = reader.take(0, MOST_ENTRIES if calls else 0)
    schedule = []
    before = ()
    for _ in range(many):
        schedule.append(take_entry(reader, calls, requests, before))
        before = schedule[-1][:4]
    reader.finish()
    return requests, schedule
