"""Systems for the tests: ordinary ones, invalid ones, and made ones."""

import random

ORDINARY = (4, ((0, 1, (0, 10), 1, 3), (0, 2, (0,), 2, 5), (1, 3, (0,), 1, 1), (2, 3, (0, 4), 1, 2)))
# 0 -> 1 -> 2 -> 3, one way only.
ONE_WAY = (4, ((0, 1, (2, 7), 1, 4), (1, 2, (0, 3, 9), 5, 5), (2, 3, (1,), 0, 6)))
# All ways pass 1, then part to 2 and 3 and meet again at 4.
MEETING = (5, ((0, 1, (0, 50), 0, 9), (1, 2, (0, 2), 1, 3), (1, 3, (4,), 1, 8), (2, 4, (0,), 1, 1), (3, 4, (0,), 2, 2)))
# Several calls between the same two services; none is the best one for both ends.
PARALLEL = (3, ((0, 1, (5, 8), 1, 2), (0, 1, (0, 1), 3, 4), (0, 1, (6,), 0, 9), (1, 2, (3,), 2, 2), (1, 2, (1, 7), 0, 0)))
# Services 1 and 3 are not reached; 3 has a call from 1 and one to 4.
UNREACHED = (5, ((0, 2, (0, 5), 1, 2), (1, 3, (0,), 9, 9), (3, 4, (99,), 99, 99), (2, 4, (1,), 0, 3), (1, 2, (0,), 0, 0)))
ALONE = (1, ())
# The greatest numbers that the document allows.
WIDEST = (8, tuple((k, k + 1, (0, 33, 66, 99), 0, 99) for k in range(7)) + ((0, 7, (0,), 0, 0),) * 13)

SYSTEMS = [ORDINARY, ONE_WAY, MEETING, PARALLEL, UNREACHED, ALONE, WIDEST]

GOOD = (0, 1, (0, 5), 1, 2)
HUGE = 10 ** 5000

BAD_OFFSETS = [
    None, 0, True, "0", [0, 5], (), (0, 1, 2, 3, 4), (5, 0), (5, 5), (0, 5, 3), (0, 0, 5), (-1,), (-1, 5), (100,),
    (0, 100), (True,), (0, True), (False, 5), (None,), ("0",), (0, (5,)), (0, HUGE),
]

# Tuples (least, most), the first half of them with a wrong `least`.
BAD_LIMITS = [
    (None, 2), (True, 2), (False, 2), ("1", 2), (-1, 2), (3, 2), (100, 100), ((), 2), (-HUGE, 2),
    (1, None), (1, True), (0, False), (1, "2"), (1, 0), (0, -1), (1, 100), (1, []), (1, HUGE),
]

BAD_CALLS = [
    None, True, 7, "call", "abcde", (), [0, 1, (0, 5), 1, 2], (0, 1, (0, 5), 1), (0, 1, (0, 5), 1, 2, 3),
    # caller
    (None, 1, (0,), 1, 2), (False, 1, (0,), 1, 2), ("0", 1, (0,), 1, 2), (-1, 1, (0,), 1, 2), (3, 4, (0,), 1, 2),
    (2, 3, (0,), 1, 2), (HUGE, 1, (0,), 1, 2), ((0,), 1, (0,), 1, 2),
    # target
    (0, None, (0,), 1, 2), (0, True, (0,), 1, 2), (0, "1", (0,), 1, 2), (0, 0, (0,), 1, 2), (1, 0, (0,), 1, 2),
    (0, -1, (0,), 1, 2), (0, 3, (0,), 1, 2), (1, 1, (0,), 1, 2), (0, HUGE, (0,), 1, 2), (0, [1], (0,), 1, 2),
]
BAD_CALLS += [(0, 1, offsets, 1, 2) for offsets in BAD_OFFSETS]
BAD_CALLS += [(0, 1, (0,), least, most) for least, most in BAD_LIMITS]


def invalid_systems():
    """Return a list of tuples (system, part, index)."""
    cases = [(system, "system", 0) for system in [
        None, True, 3, HUGE, "", "ab", (), (3,), (3, (), ()), [3, ()], [], ((3, ()),)]]
    cases += [((count, ()), "count", 0) for count in [0, 9, -1, -3, HUGE, True, False, None, "3", (3,), [3], ()]]
    cases += [((0, calls), "count", 0) for calls in [None, [], ((),), ((1, 0),)]]
    cases += [((3, calls), "calls", 0) for calls in [None, True, 5, "", "abc", [], [GOOD], [GOOD, None]]]
    for call in BAD_CALLS:
        cases.append(((3, (call,)), "calls", 0))
        cases.append(((3, (GOOD, GOOD, call, GOOD)), "calls", 2))
        # Only the first invalid call is told.
        cases.append(((3, (GOOD, call, GOOD, None, (1, 0), call)), "calls", 1))
        cases.append(((3, (GOOD,) * 19 + (call,)), "calls", 19))
        cases.append(((3, (GOOD,) * 20 + (call,)), "calls", 20))
    cases.append(((1, ((0, 1, (0,), 1, 1),)), "calls", 0))
    cases.append(((2, (GOOD, (1, 2, (0,), 1, 1))), "calls", 1))
    cases.append(((8, ((6, 7, (0,), 1, 1), (7, 8, (0,), 1, 1))), "calls", 1))
    cases.append(((3, (GOOD,) * 21), "calls", 20))
    cases.append(((3, (GOOD,) * 25), "calls", 20))
    cases.append(((3, (GOOD,) * 7 + (None,) + (GOOD,) * 20), "calls", 7))
    return cases


INVALID_SYSTEMS = invalid_systems()


def made_call(chance, count, most_offsets, most_tick):
    """Return a call that chance makes."""
    caller = chance.randrange(count - 1)
    target = chance.randrange(caller + 1, count)
    many = chance.randint(1, most_offsets)
    offsets = tuple(sorted(chance.sample(range(most_tick + 1), many)))
    least = chance.randint(0, most_tick)
    return (caller, target, offsets, least, chance.randint(least, most_tick))


def made_systems(seed, many, most_count, most_calls, most_offsets, most_tick):
    """Return systems that are the same for each run with the same arguments."""
    chance = random.Random(seed)
    systems = []
    for _ in range(many):
        count = chance.randint(2, most_count)
        calls = [made_call(chance, count, most_offsets, most_tick) for _ in range(chance.randint(1, most_calls))]
        systems.append((count, tuple(calls)))
    return systems


BAD_WINDOWS = [-1, 10000, True, False, None, "5", "", (), (5,), [5], HUGE, -HUGE]


def invalid_windows(count):
    """Return a list of tuples (windows, index) for systems with so many services."""
    good = (0, 9999, 5, 7, 1, 2, 3, 4)[:count]
    cases = [(windows, 0) for windows in [None, True, 0, 5, HUGE, "", "5" * count, [], list(good), [None] * count]]
    cases += [(good[:index], index) for index in range(count)]
    cases += [(good + (5,) * more, count) for more in (1, 2, 9)]
    for bad in BAD_WINDOWS:
        cases.append((good + (bad,), count))
        cases.append((good + (5, bad), count))
        for index in range(count):
            cases.append((good[:index] + (bad,) + good[index + 1:], index))
            # The first of several faults is told.
            cases.append((good[:index] + (bad,) * (count - index), index))
            cases.append((good[:index] + (bad,), index))
            cases.append((good[:index] + (bad,) + good[index + 1:] + (5,), index))
    return cases


BAD_ENTRIES = [-10000, 10000, True, False, None, "5", "", (), [5], [], HUGE, -HUGE]


def invalid_tables(reached, table):
    """Return a list of tuples (table, row, column), made of a valid table for some reached services."""
    count = len(table)
    cases = [(bad, 0, 0) for bad in [None, True, 0, HUGE, "", "ab", (), tuple(table), ()]]
    cases += [(table[:row], row, 0) for row in range(count)]
    cases += [(table + [more], count, 0) for more in [None, 0, [], list(table[0])]]
    cases.append((table + table, count, 0))
    for row in range(count):
        for bad in [None, 0, True, "", "abcd", (), tuple(table[row]), [], table[row][:-1], table[row] + [0],
                    table[row] + [None], [[]] * (count + 1)]:
            cases.append((table[:row] + [bad] + table[row + 1:], row, 0))
            # A superfluous row and later rows come after all others.
            cases.append((table[:row] + [bad] + table[row + 1:] + [[]], row, 0))
            cases.append((table[:row] + [bad] * (count - row), row, 0))
            cases.append((table[:row] + [bad], row, 0))
        for column in range(count):
            is_reached = row in reached and column in reached
            for bad in BAD_ENTRIES if is_reached else [0, -1, 10000, True, False, "", (), [None], [], HUGE]:
                wrong = table[row][:column] + [bad] + table[row][column + 1:]
                cases.append((table[:row] + [wrong] + table[row + 1:], row, column))
                cases.append((table[:row] + [wrong], row, column))
                cases.append((table[:row] + [wrong] + table[row + 1:] + [wrong], row, column))
                cases.append((table[:row] + [wrong] * (count - row), row, column))
                worse = table[row][:column] + [bad] + ["x"] * (count - column - 1)
                cases.append((table[:row] + [worse] + table[row + 1:], row, column))
                # A wrong length is told before the entries of the row.
                cases.append((table[:row] + [wrong + [0]] + table[row + 1:], row, 0))
                cases.append((table[:row] + [wrong[:-1]] + table[row + 1:], row, 0))
    return cases


BAD_TIMES = [-1, 100000, True, False, "5", "", (), (5,), [5], [], HUGE, -HUGE]


def invalid_logs(count):
    """Return a list of tuples (log, index) for systems with so many services."""
    good = [0, 99999, None, 0, 5, 6, 7, None][:count]
    cases = [(log, 0) for log in [None, True, 0, HUGE, "", "0" * count, (), tuple(good), [], [None] * count]]
    cases += [([bad] + good[1:], 0) for bad in BAD_TIMES + [None, 1, 5, 99999]]
    cases += [([bad] * count, 0) for bad in BAD_TIMES + [None, 1]]
    cases += [(good[:index], index) for index in range(count)]
    cases += [(good + [more], count) for more in BAD_TIMES + [None, 0, 5]]
    cases += [(good + [5, more], count) for more in BAD_TIMES + [None, 0, 5]]
    for bad in BAD_TIMES:
        for index in range(1, count):
            cases.append((good[:index] + [bad] + good[index + 1:], index))
            cases.append((good[:index] + [bad] * (count - index), index))
            cases.append((good[:index] + [bad], index))
            cases.append((good[:index] + [bad] + good[index + 1:] + [bad], index))
    return cases


def invalid_times():
    """Return a list of tuples (times, index) for the times of requests."""
    good = [0, 1, 5, 6, 7, 30, 99997, 99998, 99999]
    cases = [(times, 0) for times in [None, True, 0, 5, HUGE, "", "05", (), tuple(good), (0,), []]]
    cases += [(good + [more], 9) for more in BAD_TIMES + [None, 99999, 100000, 5]]
    cases += [([0, 1, 2, 3, 4, 5, 6, 7, 8, 9], 9), ([0, 1, 2, 3, 4, 5, 6, 7, 8, 9, None], 9)]
    for bad in BAD_TIMES + [None]:
        for index in range(9):
            cases.append((good[:index] + [bad] + good[index + 1:], index))
            # The first of several faults is told.
            cases.append((good[:index] + [bad] * (9 - index), index))
            cases.append((good[:index] + [bad], index))
            cases.append((good[:index] + [bad] + good[index + 1:] + [bad], index))
    for index in range(1, 9):
        for low in [0, good[index - 1] - 1, good[index - 1]]:
            cases.append((good[:index] + [low] + good[index + 1:], index))
    return cases


# Messages of ORDINARY, for two requests, that are wrong in each way.
BAD_MESSAGES = [
    None, True, 7, HUGE, "", "0000", (), [0, 0, 0, 0], (0, 0, 0), (0, 0, 0, 0, 1), (0,), ((0, 0, 0, 0),),
    # request
    (-1, 0, 0, 0), (2, 0, 0, 0), (None, 0, 0, 0), (True, 0, 0, 0), (False, 0, 0, 0), ("0", 0, 0, 0), (HUGE, 0, 0, 0),
    # act
    (0, -1, 0, 0), (0, 100, 0, 0), (0, None, 0, 0), (0, True, 0, 0), (0, "0", 0, 0), (0, HUGE, 0, 0), (0, [0], 0, 0),
    # call
    (0, 0, -1, 0), (0, 0, 4, 0), (0, 0, None, 0), (0, 0, True, 0), (0, 0, "0", 0), (0, 0, HUGE, 0), (0, 0, (0,), 0),
    # attempt
    (0, 0, 0, -1), (0, 0, 0, 2), (0, 0, 1, 1), (0, 0, 2, 1), (0, 0, 0, None), (0, 0, 0, True), (0, 0, 0, False),
    (0, 0, 0, "0"), (0, 0, 0, HUGE), (0, 0, 0, -HUGE),
]

# Messages of ORDINARY and delays that these cannot have.
BAD_DELAYS = [((0, 0, 0, 0), delay) for delay in [0, 4, -1, None, True, False, "1", "", (1,), [1], HUGE, -HUGE]]
BAD_DELAYS += [((0, 0, 1, 0), 1), ((0, 0, 1, 0), 6), ((1, 99, 2, 0), 0), ((1, 0, 2, 0), 2), ((0, 5, 3, 1), 0)]
BAD_DELAYS += [((0, 0, 3, 1), 3)]


def invalid_entries():
    """Return a list of what is not an entry of a schedule of ORDINARY for two requests."""
    entries = [message + (1,) if isinstance(message, tuple) else message for message in BAD_MESSAGES]
    entries += [message + (delay,) for message, delay in BAD_DELAYS]
    return entries + [(0, 0, 0, 0), [0, 0, 0, 0, 1], "00001"]


def invalid_schedules():
    """Return a list of tuples (schedule, index) for ORDINARY and two requests."""
    good = [(0, 0, 0, 0, 1), (0, 0, 0, 1, 3), (0, 0, 1, 0, 5), (0, 99, 3, 1, 2), (1, 0, 0, 0, 2), (1, 7, 2, 0, 1)]
    cases = [(schedule, 0) for schedule in [None, True, 0, HUGE, "", "abc", (), tuple(good), (good,)]]
    for bad in invalid_entries():
        for index in range(len(good) + 1):
            cases.append((good[:index] + [bad] + good[index:], index))
            cases.append((good[:index] + [bad], index))
            cases.append((good[:index] + [bad, None, bad], index))
    for index in range(1, len(good)):
        # The same first four numbers, whatever the delay is, and smaller ones.
        cases.append((good[:index] + good[index - 1:], index))
        cases.append((good[:index] + [(0, 0, 0, 0, 3)] + good[index:], index))
        cases.append((good[:index] + [(0, 0, 0, 0, 3), None], index))
    cases.append(([good[1], good[0]], 1))
    cases.append(([good[2], good[1], good[0]], 1))
    cases.append(([(0, 1, 0, 0, 1), (0, 0, 3, 0, 1)], 1))
    cases.append(([(1, 0, 0, 0, 1), (0, 1, 0, 0, 1)], 1))
    return cases


def made_times(chance, most_requests, most_time):
    """Return the times of some requests that chance makes."""
    return sorted(chance.sample(range(most_time + 1), chance.randint(1, most_requests)))


def made_schedule(chance, system, requests, most_act, share):
    """Return a schedule that chance makes: it lists a share of all messages of the acts up to `most_act`."""
    schedule = []
    for request in range(requests):
        for act in range(most_act + 1):
            for index, call in enumerate(system[1]):
                for attempt in range(len(call[2])):
                    if chance.random() < share:
                        schedule.append((request, act, index, attempt, chance.randint(call[3], call[4])))
    return schedule
