"""Tests of onceonly.simulator: points 3, 4 and 12 of the document."""

import random
import unittest

import playing
import samples
from onceonly.errors import InvalidSchedule, InvalidSystem, InvalidTimes, InvalidWindows
from onceonly.simulator import count_acts, simulate
from onceonly.windows import double_act, least_windows

MADE = samples.made_systems(31, 120, 5, 6, 3, 5) + samples.made_systems(32, 60, 8, 12, 4, 99)

ONE_CALL = (2, ((0, 1, (0, 5), 1, 2),))
CHAIN = (3, ((0, 1, (0, 4, 8), 0, 3), (1, 2, (0, 2), 0, 3)))
# 1 and 2 can act at the same time; both call 3.
MEETING = (4, ((0, 2, (0,), 1, 9), (0, 1, (0,), 1, 9), (2, 3, (0, 1), 0, 9), (1, 3, (0, 1), 0, 9)))


class ExamplesTest(unittest.TestCase):
    system = (2, ((0, 1, (0, 5), 1, 2),))

    def test_simulate(self):
        events = simulate(self.system, (0, 3), [0], [(0, 0, 0, 0, 1), (0, 0, 0, 1, 2)])
        self.assertEqual(events, [(0, 0, 0, True), (1, 1, 0, True), (7, 1, 0, True)])

    def test_invalid_schedule(self):
        with self.assertRaises(InvalidSchedule) as caught:
            simulate(self.system, (0, 3), [0], [(0, 0, 0, 0, 3)])
        self.assertEqual(caught.exception.index, 0)

    def test_count_acts(self):
        schedule = [(0, 0, 0, 0, 1), (0, 0, 0, 1, 2)]
        self.assertEqual(count_acts(self.system, (0, 5), [0], schedule), [1, 2])
        self.assertEqual(count_acts(self.system, (0, 6), [0], schedule), [1, 1])


class SimulateTest(unittest.TestCase):
    def check(self, system, windows, times, schedule, events):
        self.assertEqual(simulate(system, windows, times, schedule), events)
        counts = [0] * system[0]
        for _, service, _, is_act in events:
            counts[service] += is_act
        self.assertEqual(count_acts(system, windows, times, schedule), counts)

    def test_all_messages_lost(self):
        self.check(samples.ALONE, (0,), [0], [], [(0, 0, 0, True)])
        self.check(samples.ORDINARY, (0,) * 4, [99999], [], [(99999, 0, 0, True)])

    def test_delays_and_offsets(self):
        self.check(ONE_CALL, (0, 6), [40], [(0, 0, 0, 1, 2)], [(40, 0, 0, True), (47, 1, 0, True)])

    def test_several_requests(self):
        times = [0, 1, 3, 4, 7]
        # A window of 2: 0 remembers the key at 1 and 4, and only until 2 and 5.
        events = [(0, 0, 0, True), (1, 0, 1, False), (3, 0, 2, True), (4, 0, 3, False), (7, 0, 4, True)]
        self.check(ONE_CALL, (2, 0), times, [], events)
        self.check(ONE_CALL, (0, 0), times, [], [(time, 0, request, True) for request, time in enumerate(times)])
        self.check(ONE_CALL, (9999, 0), times, [], [(time, 0, k, k == 0) for k, time in enumerate(times)])

    def test_ignored_arrivals_do_not_change_what_is_remembered(self):
        # 3 is ignored because of the act at 1; it does not make 0 remember the key until 6.
        self.check((1, ()), (3,), [1, 3, 5], [], [(1, 0, 0, True), (3, 0, 1, False), (5, 0, 2, True)])

    def test_last_moment_and_the_one_after_it(self):
        for window in [0, 1, 7, 9999]:
            for apart in [window, window + 1]:
                if apart:
                    self.check((1, ()), (window,), [5, 5 + apart], [], [
                        (5, 0, 0, True), (5 + apart, 0, 1, apart > window)])
        schedule = [(0, 0, 0, 0, 1), (0, 0, 0, 1, 1)]
        for window in [4, 5]:
            self.check(ONE_CALL, (0, window), [0], schedule, [(0, 0, 0, True), (1, 1, 0, True), (6, 1, 0, window < 5)])

    def test_act_numbers_of_one_request(self):
        # 1 acts at 1, 5 and 9. Only messages of its acts 0 and 2 arrive.
        schedule = [(0, 0, 0, 0, 1), (0, 0, 0, 1, 1), (0, 0, 0, 2, 1), (0, 0, 1, 0, 3), (0, 2, 1, 1, 1), (0, 3, 1, 0, 0)]
        self.check(CHAIN, (0, 0, 0), [0], schedule, [
            (0, 0, 0, True), (1, 1, 0, True), (4, 2, 0, True), (5, 1, 0, True), (9, 1, 0, True), (12, 2, 0, True)])
        # With a window of 4, its acts are at 1 and 9: nothing is sent by act 2.
        self.check(CHAIN, (0, 4, 0), [0], schedule, [
            (0, 0, 0, True), (1, 1, 0, True), (4, 2, 0, True), (5, 1, 0, False), (9, 1, 0, True)])

    def test_act_numbers_are_counted_for_each_request(self):
        schedule = [(0, 0, 0, 0, 0), (0, 0, 1, 0, 0), (1, 0, 0, 0, 3), (1, 0, 1, 0, 1), (1, 1, 1, 0, 2)]
        self.check(CHAIN, (0, 0, 0), [0, 20], schedule, [
            (0, 0, 0, True), (0, 1, 0, True), (0, 2, 0, True), (20, 0, 1, True), (23, 1, 1, True), (24, 2, 1, True)])

    def test_a_request_that_is_ignored_sends_nothing(self):
        schedule = [(0, 0, 0, 0, 1), (1, 0, 0, 0, 1), (1, 0, 0, 1, 2)]
        self.check(ONE_CALL, (30, 0), [0, 30], schedule, [(0, 0, 0, True), (1, 1, 0, True), (30, 0, 1, False)])
        self.check(ONE_CALL, (29, 0), [0, 30], schedule, [
            (0, 0, 0, True), (1, 1, 0, True), (30, 0, 1, True), (31, 1, 1, True), (37, 1, 1, True)])

    def test_a_message_belongs_to_the_request_of_its_act(self):
        # The message of request 0 arrives last, after those of request 1.
        schedule = [(0, 0, 0, 2, 3), (1, 0, 0, 0, 0), (1, 0, 0, 1, 0)]
        self.check(CHAIN, (0, 0, 0), [0, 2], schedule, [
            (0, 0, 0, True), (2, 0, 1, True), (2, 1, 1, True), (6, 1, 1, True), (11, 1, 0, True)])

    def test_messages_that_are_never_sent(self):
        schedule = [(0, 1, 0, 0, 1), (0, 0, 1, 0, 1), (0, 99, 0, 1, 2)]
        self.check(CHAIN, (0, 0, 0), [4], sorted(schedule), [(4, 0, 0, True)])
        self.check(samples.UNREACHED, (0,) * 5, [0], [(0, 0, 1, 0, 9), (0, 0, 2, 0, 99)], [(0, 0, 0, True)])

    def test_same_time_at_different_services(self):
        schedule = [(0, 0, 0, 0, 4), (0, 0, 1, 0, 4), (0, 0, 2, 0, 0), (0, 0, 3, 0, 0), (1, 0, 0, 0, 1), (1, 0, 1, 0, 1)]
        # Call 0 leads to 2 and call 1 to 1. All but the first arrival come at 4.
        self.check(MEETING, (0, 0, 0, 0), [0, 4], schedule[:4], [
            (0, 0, 0, True), (4, 0, 1, True), (4, 1, 0, True), (4, 2, 0, True), (4, 3, 0, True), (4, 3, 0, False)])
        self.check(MEETING, (0, 0, 0, 0), [0, 3], schedule, [
            (0, 0, 0, True), (3, 0, 1, True), (4, 1, 0, True), (4, 1, 1, False), (4, 2, 0, True), (4, 2, 1, False),
            (4, 3, 0, True), (4, 3, 0, False)])

    def test_same_time_at_the_same_service(self):
        # Both arrive at 9. The entry of request 0 comes first, though it is sent later.
        system = (2, ((0, 1, (0, 6), 1, 9), (0, 1, (4,), 1, 9)))
        self.check(system, (0, 0), [0, 1], [(0, 0, 1, 0, 5), (1, 0, 0, 0, 8)], [
            (0, 0, 0, True), (1, 0, 1, True), (9, 1, 0, True), (9, 1, 1, False)])
        # The order of calls and attempts decides whose act number the messages have.
        self.check(system, (0, 0), [0], [(0, 0, 0, 0, 9), (0, 0, 0, 1, 3), (0, 0, 1, 0, 5)], [
            (0, 0, 0, True), (9, 1, 0, True), (9, 1, 0, False), (9, 1, 0, False)])
        # The act of request 0 at 9 sends the message of call 2 for request 0 only.
        relayed = (3, system[1] + ((1, 2, (0,), 1, 1),))
        self.check(relayed, (0, 0, 0), [0, 1], [(0, 0, 1, 0, 5), (0, 0, 2, 0, 1), (1, 0, 0, 0, 8), (1, 0, 2, 0, 1)], [
            (0, 0, 0, True), (1, 0, 1, True), (9, 1, 0, True), (9, 1, 1, False), (10, 2, 0, True)])

    def test_last_acts_of_a_schedule(self):
        # 1 acts at 0 to 15, and 2 at 0 to 127: an act at each moment, more than a schedule has messages for.
        calls = [(0, 1, tuple(range(4 * k, 4 * k + 4)), 0, 0) for k in range(4)]
        calls += [(1, 2, (0, 16, 32, 48), 0, 0), (1, 2, (0, 16, 32, 48), 64, 64), (2, 3, (0,), 1, 1)]
        schedule = [(0, 0, call, attempt, 0) for call in range(4) for attempt in range(4)]
        schedule += [(0, act, call, attempt, 64 * (call - 4)) for act in range(16) for call in (4, 5)
                     for attempt in range(4)]
        schedule = sorted(schedule + [(0, act, 6, 0, 1) for act in range(100)])
        found = simulate((4, tuple(calls)), (0,) * 4, [0], schedule)
        self.assertEqual([event for event in found if event[1] == 2], [(time, 2, 0, True) for time in range(128)])
        self.assertEqual([event for event in found if event[1] == 3], [(time, 3, 0, True) for time in range(1, 101)])

    def test_events_beyond_the_last_time(self):
        self.check(ONE_CALL, (0, 0), [99999], [(0, 0, 0, 1, 2)], [(99999, 0, 0, True), (100006, 1, 0, True)])

    def test_made_schedules(self):
        chance = random.Random(33)
        seen = {"acts": 0, "ignored": 0, "later": 0}
        for system in samples.SYSTEMS + MADE:
            for windows in [(0,) * system[0], (3,) * system[0], least_windows(system), (9999,) * system[0]]:
                times = samples.made_times(chance, 9, chance.choice([8, 40, 300]))
                schedule = samples.made_schedule(chance, system, len(times), 3, chance.choice([0.2, 0.7, 1]))
                played = playing.play_requests(system, windows, times, schedule)
                events = [(time, service, request, by is None) for time, service, request, by in played]
                self.check(system, windows, times, schedule, events)
                acts = [event[1:3] for event in events if event[3]]
                seen["acts"] += len(acts)
                seen["ignored"] += len(events) - len(acts)
                seen["later"] += len(acts) - len(set(acts))
        self.assertGreater(min(seen.values()), 1000)

    def test_double_acts(self):
        told = 0
        for system in samples.SYSTEMS + MADE:
            least = least_windows(system)
            for service, window in enumerate(least):
                if window:
                    windows = least[:service] + (window - 1,) + least[service + 1:]
                    found = double_act(system, windows)
                    self.assertGreater(count_acts(system, windows, [0], found[1])[found[0]], 1)
                    self.assertEqual(count_acts(system, windows, [7], found[1])[:service], [
                        min(acts, 1) for acts in count_acts(system, least, [7], found[1])[:service]])
                    self.assertLessEqual(max(count_acts(system, least, [0], found[1])), 1)
                    told += 1
        self.assertGreater(told, 100)


class ErrorsTest(unittest.TestCase):
    windows = (0, 12, 0, 11)

    def check(self, arguments, error, index):
        for ask in [simulate, count_acts]:
            with self.assertRaises(error) as caught:
                ask(*arguments)
            self.assertEqual(caught.exception.index, index)
            self.assertIsInstance(str(caught.exception), str)

    def test_invalid_times(self):
        for times, index in samples.invalid_times():
            self.check((samples.ORDINARY, self.windows, times, []), InvalidTimes, index)

    def test_edges_of_times(self):
        for times in [[0], [99999], [0, 1], [99998, 99999], list(range(9)), [0, 1, 5, 6, 7, 30, 99997, 99998, 99999]]:
            self.assertEqual(simulate((1, ()), (0,), times, []), [(t, 0, k, True) for k, t in enumerate(times)])

    def test_invalid_schedules(self):
        for schedule, index in samples.invalid_schedules():
            self.check((samples.ORDINARY, self.windows, [4, 9], schedule), InvalidSchedule, index)

    def test_schedule_for_the_requests(self):
        for requests in range(1, 9):
            times = list(range(requests))
            schedule = [(request, 0, 0, 0, 1) for request in range(requests)]
            self.assertGreater(len(simulate(samples.ORDINARY, self.windows, times, schedule)), requests)
            self.check((samples.ORDINARY, self.windows, times, schedule + [(requests, 0, 0, 0, 1)]),
                       InvalidSchedule, requests)

    def test_edges_of_schedules(self):
        schedule = [(0, 0, 0, 0, 1), (0, 0, 0, 1, 3), (0, 0, 1, 0, 2), (0, 99, 3, 1, 2), (1, 0, 0, 0, 3), (1, 99, 3, 0, 1)]
        self.assertEqual(len(simulate(samples.ORDINARY, self.windows, [0, 99999], schedule)), 6)
        self.assertEqual(simulate(samples.ORDINARY, self.windows, [3], []), [(3, 0, 0, True)])

    def test_order_of_errors(self):
        for ask in [simulate, count_acts]:
            for times in [None, [], [100000], [3]]:
                for schedule in [None, [None], [(1, 0, 0, 0, 1)]]:
                    with self.assertRaises(InvalidSystem):
                        ask((4, None), self.windows[:2], times, schedule)
                    with self.assertRaises(InvalidWindows):
                        ask(samples.ORDINARY, self.windows[:2], times, schedule)
                    with self.assertRaises(InvalidSchedule if times == [3] else InvalidTimes):
                        ask(samples.ORDINARY, self.windows, times, schedule)


if __name__ == "__main__":
    unittest.main()
