"""Tests of onceonly.windows: points 6 and 7 of the document."""

import unittest

import playing
import samples
from onceonly.differences import act_times, difference
from onceonly.errors import InvalidGap, InvalidSystem, InvalidWindows
from onceonly.systems import reachable_services
from onceonly.windows import deciding_messages, double_act, least_windows, memory_needs

SMALL = samples.made_systems(5, 60, 4, 4, 2, 2) + samples.made_systems(6, 60, 5, 6, 1, 2)
LARGE = samples.made_systems(7, 60, 8, 20, 4, 99) + samples.made_systems(8, 60, 6, 8, 4, 9)
ALL = samples.SYSTEMS + SMALL + LARGE

ONE_CALL = (2, ((0, 1, (7,), 1, 9),))
ONE_CALL_OF_SEVERAL_ATTEMPTS = (2, ((0, 1, (3, 8, 20), 1, 9),))
SEVERAL_CALLS = (2, ((0, 1, (5,), 2, 3), (0, 1, (0, 4), 1, 6), (0, 1, (2,), 0, 9)))
PARTING = (4, ((0, 1, (0,), 1, 9), (0, 2, (3,), 0, 2), (1, 3, (0,), 5, 6), (2, 3, (1,), 4, 4)))


def arrival_differences(system):
    """Return a dict from pairs (late, early) of different messages to one service to tuples (service, difference)."""
    reached = reachable_services(system)
    calls = system[1]
    sent = [(index, attempt) for index, attempt in playing.messages(system) if calls[index][0] in reached]
    found = {}
    for late in sent:
        for early in sent:
            if late != early and calls[late[0]][1] == calls[early[0]][1]:
                first, second = calls[late[0]], calls[early[0]]
                callers = difference(system, first[0], second[0])
                found[late, early] = (
                    first[1], callers + first[2][late[1]] + first[4] - second[2][early[1]] - second[3])
    return found


def lowered(windows, service, change=1):
    return windows[:service] + (windows[service] - change,) + windows[service + 1:]


class ExamplesTest(unittest.TestCase):
    system = (4, ((0, 1, (0, 10), 1, 3), (0, 2, (0,), 2, 5), (1, 3, (0,), 1, 1), (2, 3, (0, 4), 1, 2)))

    def test_least_windows(self):
        self.assertEqual(least_windows(self.system), (0, 12, 0, 11))

    def test_deciding_messages(self):
        self.assertEqual(deciding_messages(self.system), [None, ((0, 1), (0, 0)), None, ((2, 0), (3, 0))])

    def test_double_act(self):
        found = double_act((2, ((0, 1, (0, 5), 1, 2),)), (0, 5))
        self.assertEqual(found, (1, [(0, 0, 0, 0, 1), (0, 0, 0, 1, 2)]))

    def test_no_double_act(self):
        self.assertIsNone(double_act(self.system, (0, 12, 0, 11)))

    def test_memory_needs(self):
        self.assertEqual(memory_needs(self.system, (0, 12, 0, 11), 5), [1, 5, 1, 5])

    def test_memory_needs_of_invalid_gap(self):
        with self.assertRaises(InvalidGap):
            memory_needs((1, ()), (0,), 0)


class LeastWindowsTest(unittest.TestCase):
    def check(self, system, windows, messages):
        self.assertEqual(least_windows(system), windows)
        self.assertEqual(deciding_messages(system), messages)

    def test_one_call(self):
        self.check(ONE_CALL, (0, 0), [None, None])

    def test_one_call_of_several_attempts(self):
        # 17 between the offsets and 8 between the delays.
        self.check(ONE_CALL_OF_SEVERAL_ATTEMPTS, (0, 25), [None, ((0, 2), (0, 0))])

    def test_several_calls_to_the_same_service(self):
        # The arrivals are 7 to 8, 1 to 6, 5 to 10 and 2 to 11.
        self.check(SEVERAL_CALLS, (0, 10), [None, ((2, 0), (1, 0))])

    def test_ways_that_part_and_meet_again(self):
        # By 1 a message arrives at 6 to 15, by 2 at 8 to 10.
        self.check(PARTING, (0, 0, 0, 7), [None, None, None, ((2, 0), (3, 0))])

    def test_a_shared_way_does_not_count(self):
        # 2 acts 1 to 5 after 1, 3 acts 5 to 12 after 1.
        self.check(samples.MEETING, (0, 59, 4, 0, 12),
                   [None, ((0, 1), (0, 0)), ((1, 1), (1, 0)), None, ((4, 0), (3, 0))])

    def test_services_that_are_not_reached(self):
        self.check(samples.UNREACHED, (0, 0, 6, 0, 0), [None, None, ((0, 1), (0, 0)), None, None])

    def test_no_calls(self):
        for count in range(1, 9):
            self.check((count, ()), (0,) * count, [None] * count)

    def test_two_messages_that_always_arrive_together(self):
        self.check((2, ((0, 1, (4,), 3, 3), (0, 1, (2,), 5, 5))), (0, 0), [None, None])
        self.check((2, ((0, 1, (4,), 3, 3), (0, 1, (2,), 5, 6))), (0, 1), [None, ((1, 0), (0, 0))])

    def test_greatest_numbers(self):
        windows = (0,) + (198,) * 6 + (7 * 198,)
        self.check(samples.WIDEST, windows, [None] + [((k, 3), (k, 0)) for k in range(6)] + [((6, 3), (7, 0))])

    def test_first_of_equally_far_messages(self):
        same = (0, 1, (0, 5), 1, 2)
        self.check((2, (same, same, same)), (0, 6), [None, ((0, 1), (0, 0))])
        # Two equal calls of one attempt: either of them may come late.
        self.check((2, ((0, 1, (4,), 1, 3),) * 2), (0, 2), [None, ((0, 0), (1, 0))])
        # Late: call 1 or 2. Early: call 0 or 3.
        calls = ((0, 1, (0,), 1, 1), (0, 1, (9,), 2, 2), (0, 1, (8,), 3, 3), (0, 1, (1,), 0, 0))
        self.check((2, calls), (0, 10), [None, ((1, 0), (0, 0))])
        self.check((2, calls[::-1]), (0, 10), [None, ((1, 0), (0, 0))])

    def test_greatest_difference_of_two_messages(self):
        for system in ALL:
            with self.subTest(system=system):
                found = arrival_differences(system)
                windows = [0] * system[0]
                for service, apart in found.values():
                    windows[service] = max(windows[service], apart)
                messages = []
                for service, window in enumerate(windows):
                    widest = [pair for pair in found if found[pair] == (service, window)]
                    messages.append(min(widest) if window > 0 else None)
                self.check(system, tuple(windows), messages)

    def test_every_schedule_of_small_systems(self):
        for system in SMALL:
            windows = least_windows(system)
            too_short = {service for service, window in enumerate(windows) if window > 0}
            shown = set()
            for schedule in playing.all_schedules(system):
                acts = playing.play(system, windows, schedule)
                self.assertTrue(all(len(times) <= 1 for times in acts), (system, schedule))
                for service in too_short - shown:
                    if len(playing.play(system, lowered(windows, service), schedule)[service]) > 1:
                        shown.add(service)
            self.assertEqual(shown, too_short, system)

    def test_kinds_of_values(self):
        self.assertIs(type(least_windows(samples.ORDINARY)), tuple)
        self.assertIs(type(deciding_messages(samples.ORDINARY)), list)


class DoubleActTest(unittest.TestCase):
    def check(self, system, windows, service):
        found = double_act(system, windows)
        self.assertIs(type(found), tuple)
        self.assertEqual((len(found), found[0]), (2, service))
        self.assertTrue(playing.is_valid_schedule(system, found[1]), found[1])
        self.assertGreaterEqual(len(playing.play(system, windows, found[1])[service]), 2)

    def test_no_window_is_too_short(self):
        for system in ALL:
            windows = least_windows(system)
            self.assertIsNone(double_act(system, windows))
            self.assertIsNone(double_act(system, tuple(window + 1 for window in windows)))
            self.assertIsNone(double_act(system, (9999,) * system[0]))

    def test_one_window_is_too_short(self):
        for system in ALL:
            windows = least_windows(system)
            for service, window in enumerate(windows):
                for change in sorted({1, (window + 1) // 2, window} - {0}) if window else []:
                    with self.subTest(system=system, service=service, change=change):
                        self.check(system, lowered(windows, service, change), service)

    def test_other_windows_are_longer(self):
        for system in ALL:
            for service, window in enumerate(least_windows(system)):
                if window:
                    self.check(system, lowered((9999,) * system[0], service, 10000 - window), service)

    def test_several_windows_are_too_short(self):
        for system in ALL:
            windows = least_windows(system)
            too_short = [service for service, window in enumerate(windows) if window]
            if too_short:
                self.check(system, (0,) * system[0], too_short[0])
                self.check(system, tuple(max(0, window - 1) for window in windows), too_short[0])
            for first in too_short:
                self.check(system, windows[:first] + (0,) * (system[0] - first), first)

    def test_windows_of_services_that_are_not_reached(self):
        self.assertIsNone(double_act(samples.UNREACHED, (0, 0, 6, 0, 0)))
        self.check(samples.UNREACHED, (0, 0, 5, 0, 0), 2)

    def test_shared_way_is_in_the_schedule(self):
        found = double_act(samples.MEETING, (0, 59, 4, 0, 11))
        self.assertEqual([entry[2] for entry in found[1]], [0, 1, 2, 3, 4])


class MemoryNeedsTest(unittest.TestCase):
    def test_gaps(self):
        # A key can be remembered for 3, 24, 3 and 23 ticks after the earliest act.
        windows = (3, 12, 0, 11)
        cases = {1: [4, 25, 4, 24], 3: [2, 9, 2, 8], 4: [1, 7, 1, 6], 12: [1, 3, 1, 2], 13: [1, 2, 1, 2],
                 23: [1, 2, 1, 2], 24: [1, 2, 1, 1], 25: [1, 1, 1, 1], 9999: [1, 1, 1, 1]}
        for gap, needs in cases.items():
            with self.subTest(gap=gap):
                self.assertEqual(memory_needs(samples.ORDINARY, windows, gap), needs)

    def test_gap_and_window(self):
        system = (1, ())
        cases = [(0, 1, 1), (12, 1, 13), (12, 4, 4), (12, 5, 3), (12, 12, 2), (12, 13, 1), (9999, 9999, 2),
                 (9998, 9999, 1), (9999, 1, 10000)]
        for window, gap, need in cases:
            self.assertEqual(memory_needs(system, (window,), gap), [need])

    def test_services_that_are_not_reached(self):
        for window in [0, 9999]:
            needs = memory_needs(samples.UNREACHED, (0, window, 6, window, 0), 4)
            self.assertEqual(needs, [1, 0, 4, 0, 3])

    def test_keys_that_are_remembered_together(self):
        for system in ALL:
            times = act_times(system)
            for windows in [least_windows(system), (0,) * system[0], (77,) * system[0]]:
                for gap in [1, 3, 30]:
                    needs = []
                    for service in range(system[0]):
                        early, late = times.get(service, (1, 0))
                        last = late + windows[service]
                        # The requests arrive in the smallest gaps; each act comes when it suits the moment.
                        counts = [0]
                        for moment in range(gap) if service in times else []:
                            requests = range(-2 - last // gap, 3)
                            counts.append(len([k for k in requests if k * gap + early <= moment <= k * gap + last]))
                        needs.append(max(counts))
                    self.assertEqual(memory_needs(system, windows, gap), needs)

    def test_invalid_gaps(self):
        for gap in [0, -1, 10000, True, False, None, "5", "", (), (5,), [5], samples.HUGE, -samples.HUGE]:
            with self.assertRaises(InvalidGap):
                memory_needs(samples.ORDINARY, (0, 12, 0, 11), gap)
            with self.assertRaises(InvalidSystem):
                memory_needs((0, ()), (0, 12, 0, 11), gap)
            with self.assertRaises(InvalidSystem):
                memory_needs((0, ()), None, gap)
            with self.assertRaises(InvalidWindows):
                memory_needs(samples.ORDINARY, (0, 12, 0), gap)


if __name__ == "__main__":
    unittest.main()
