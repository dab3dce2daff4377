"""Tests of onceonly.logs: point 10 of the document."""

import random
import unittest

import playing
import samples
from onceonly.errors import ImpossibleLog, InvalidLog, InvalidSystem, InvalidWindows
from onceonly.logs import explain_log, explanations, lost_messages
from onceonly.windows import least_windows

TINY = [system for system in samples.made_systems(14, 120, 4, 4, 2, 2) if playing.number_of_schedules(system) <= 1000]
LARGE = samples.made_systems(7, 60, 8, 20, 4, 99) + samples.made_systems(8, 60, 6, 8, 4, 9)


def logs_of(system, windows):
    """Return a dict from all possible logs, as tuples, to their schedules, as dicts from messages to delays."""
    found = {}
    for schedule in playing.all_schedules(system):
        acts = playing.play(system, windows, schedule)
        if all(len(times) <= 1 for times in acts):
            log = tuple(times[0] if times else None for times in acts)
            sent = {entry[2:4]: entry[4] for entry in schedule if acts[system[1][entry[2]][0]]}
            if sent not in found.setdefault(log, []):
                found[log].append(sent)
    return found


def made_log(system, chance):
    """Return a log that a schedule of a few messages makes, with the windows 9999."""
    schedule = []
    for index, attempt in playing.messages(system):
        if chance.random() < 0.6:
            schedule.append((0, 0, index, attempt, chance.randint(*system[1][index][3:])))
    acts = playing.play(system, (9999,) * system[0], schedule)
    return [times[0] if times else None for times in acts]


def sent_messages(system, log):
    return [message for message in playing.messages(system) if log[system[1][message[0]][0]] is not None]


class ExamplesTest(unittest.TestCase):
    system = (4, ((0, 1, (0, 10), 1, 3), (0, 2, (0,), 2, 5), (1, 3, (0,), 1, 1), (2, 3, (0, 4), 1, 2)))

    def test_explanations(self):
        self.assertEqual(explanations(self.system, [0, 11, None, 12]), [[], [(0, 1)], [], [(2, 0)]])

    def test_lost_messages(self):
        self.assertEqual(lost_messages(self.system, (0, 12, 0, 11), [0, 11, None, 12]), [(0, 0), (1, 0)])

    def test_impossible_log(self):
        with self.assertRaises(ImpossibleLog) as caught:
            lost_messages(self.system, (0, 12, 0, 11), [0, None, None, 5])
        self.assertEqual(caught.exception.service, 3)

    def test_explain_log(self):
        schedule = explain_log(self.system, (0, 12, 0, 11), [0, 2, None, 3])
        self.assertEqual(schedule, [(0, 0, 0, 0, 2), (0, 0, 0, 1, 1), (0, 0, 2, 0, 1)])


class ExplanationsTest(unittest.TestCase):
    def test_act_times(self):
        # The messages arrive from 2 to 4, from 6 to 8 and from 7 to 9.
        system = (2, ((0, 1, (1, 5), 1, 3), (0, 1, (0,), 7, 9)))
        cases = {0: [], 1: [], 2: [(0, 0)], 3: [(0, 0)], 4: [(0, 0)], 5: [], 6: [(0, 1)], 7: [(0, 1), (1, 0)],
                 8: [(0, 1), (1, 0)], 9: [(1, 0)], 10: [], 99999: []}
        for time, causes in cases.items():
            with self.subTest(time=time):
                self.assertEqual(explanations(system, [0, time]), [[], causes])

    def test_services_that_did_not_act(self):
        self.assertEqual(explanations(samples.ORDINARY, [0, None, None, None]), [[], [], [], []])
        self.assertEqual(explanations(samples.ORDINARY, [0, None, 2, None]), [[], [], [(1, 0)], []])
        self.assertEqual(explanations(samples.ALONE, [0]), [[]])

    def test_given_the_act_times_of_the_callers(self):
        # Service 1 acts at a time that nothing explains, or is not reached; its messages can cause acts.
        self.assertEqual(explanations(samples.ORDINARY, [0, 500, None, 501]), [[], [], [], [(2, 0)]])
        log = [0, 7, 7, None, None]
        self.assertEqual(explanations(samples.UNREACHED, log), [[], [], [(0, 1), (4, 0)], [], []])
        log = [0, 7, 7, 16, 214]
        self.assertEqual(explanations(samples.UNREACHED, log), [[], [], [(0, 1), (4, 0)], [(1, 0)], [(2, 0)]])

    def test_several_messages_of_several_callers(self):
        log = [0, 1, 2, 2]
        self.assertEqual(explanations(samples.ORDINARY, log), [[], [(0, 0)], [(1, 0)], [(2, 0)]])
        log = [0, 3, 3, 4]
        self.assertEqual(explanations(samples.ORDINARY, log), [[], [(0, 0)], [(1, 0)], [(2, 0), (3, 0)]])

    def test_all_messages(self):
        chance = random.Random(3)
        for system in TINY + LARGE:
            for _ in range(5):
                log = [0] + [chance.choice([None, chance.randint(0, 9)]) for _ in range(system[0] - 1)]
                causes = [[] for _ in log]
                for index, attempt in sent_messages(system, log):
                    caller, target, offsets, least, most = system[1][index]
                    if log[target] in [log[caller] + offsets[attempt] + delay for delay in range(least, most + 1)]:
                        causes[target].append((index, attempt))
                self.assertEqual(explanations(system, log), causes)


class PossibleLogsTest(unittest.TestCase):
    def check_explained(self, system, windows, log):
        """Check that the told schedule gives the acts, and no other delays or losses would be better."""
        schedule = explain_log(system, windows, log)
        self.assertTrue(playing.is_valid_schedule(system, schedule))
        acts = playing.play(system, windows, schedule)
        self.assertEqual(acts, [[] if time is None else [time] for time in log])
        lost = lost_messages(system, windows, log)
        self.assertEqual(sorted(lost + [entry[2:4] for entry in schedule]), sent_messages(system, log))
        self.assertEqual(lost, sorted(lost))
        self.assertEqual(explanations(system, log)[0], [])
        for _, _, index, attempt, delay in schedule:
            caller, target, offsets, least, _ = system[1][index]
            sent = log[caller] + offsets[attempt]
            self.assertTrue(delay == least or sent + delay == log[target])
        for index, attempt in lost:
            caller, target, offsets, least, most = system[1][index]
            arrivals = [log[caller] + offsets[attempt] + delay for delay in range(least, most + 1)]
            if log[target] is not None:
                self.assertFalse([at for at in arrivals if log[target] <= at <= log[target] + windows[target]])

    def test_messages_that_must_be_lost(self):
        # The messages arrive from 2 to 4, from 6 to 8 and from 7 to 9.
        system = (2, ((0, 1, (1, 5), 1, 3), (0, 1, (0,), 7, 9)))
        cases = [
            (0, None, [(0, 0), (0, 1), (1, 0)]), (0, 2, [(0, 1), (1, 0)]), (3, 2, [(0, 1), (1, 0)]), (4, 2, [(1, 0)]),
            (5, 2, []), (2, 3, [(0, 1), (1, 0)]), (3, 3, [(1, 0)]), (4, 3, []), (0, 6, [(0, 0), (1, 0)]),
            (1, 6, [(0, 0)]), (9999, 6, [(0, 0)]), (0, 7, [(0, 0)]), (0, 8, [(0, 0)]), (9, 9, [(0, 0), (0, 1)])]
        for window, time, lost in cases:
            with self.subTest(window=window, time=time):
                self.assertEqual(lost_messages(system, (0, window), [0, time]), lost)
                self.check_explained(system, (0, window), [0, time])

    def test_least_delays(self):
        system = (2, ((0, 1, (1, 5), 1, 3), (0, 1, (0,), 7, 9)))
        cases = [(5, 2, [1, 1, 7]), (5, 3, [2, 1, 7]), (9999, 4, [3, 1, 7])]
        for window, time, delays in cases:
            found = explain_log(system, (0, window), [0, time])
            self.assertEqual(found, [(0, 0, 0, 0, delays[0]), (0, 0, 0, 1, delays[1]), (0, 0, 1, 0, delays[2])])
        self.assertEqual(explain_log(system, (0, 0), [0, 8]), [(0, 0, 0, 1, 3), (0, 0, 1, 0, 8)])
        self.assertEqual(explain_log(system, (0, 0), [0, None]), [])

    def test_nothing_is_sent(self):
        self.assertEqual(explain_log(samples.ALONE, (5,), [0]), [])
        self.assertEqual(lost_messages(samples.ALONE, (5,), [0]), [])

    def test_services_that_are_not_reached_send_nothing(self):
        windows = least_windows(samples.UNREACHED)
        self.assertEqual(lost_messages(samples.UNREACHED, windows, [0, None, 7, None, None]), [(0, 0), (3, 0)])
        self.assertEqual(explain_log(samples.UNREACHED, windows, [0, None, 7, None, None]), [(0, 0, 0, 1, 2)])

    def test_every_schedule_of_tiny_systems(self):
        self.assertGreater(len(TINY), 40)
        chance = random.Random(1)
        for system in TINY:
            least = least_windows(system)
            for windows in [least, (0,) * system[0], tuple(chance.randint(0, 4) for _ in least)]:
                for log, schedules in logs_of(system, windows).items():
                    sent = sent_messages(system, log)
                    lost = [message for message in sent if not any(message in made for made in schedules)]
                    delays = {message: min(made[message] for made in schedules if message in made)
                              for message in sent if message not in lost}
                    self.assertIn(delays, schedules)
                    told = explain_log(system, windows, list(log))
                    self.assertEqual(told, [(0, 0) + message + (delays[message],) for message in sorted(delays)])
                    self.assertEqual(lost_messages(system, windows, list(log)), lost)
                    self.check_explained(system, windows, list(log))

    def test_made_logs_of_large_systems(self):
        chance = random.Random(2)
        for system in samples.SYSTEMS + LARGE:
            for windows in [least_windows(system), (0,) * system[0], (9999,) * system[0]]:
                for _ in range(5):
                    self.check_explained(system, windows, made_log(system, chance))


class ImpossibleLogsTest(unittest.TestCase):
    def check(self, system, windows, log, service):
        for ask in [lost_messages, explain_log]:
            with self.assertRaises(ImpossibleLog) as caught:
                ask(system, windows, log)
            self.assertEqual(caught.exception.service, service)

    def test_first_service_is_told(self):
        windows = (0, 12, 0, 11)
        cases = [([0, 0, None, None], 1), ([0, 4, None, None], 1), ([0, 14, None, None], 1), ([0, 4, 1, 9], 1),
                 ([0, 1, 1, 9], 2), ([0, 1, 6, 9], 2), ([0, None, 6, 9], 2), ([0, 1, 2, 1], 3), ([0, 1, 2, 9], 3),
                 ([0, 1, None, 3], 3), ([0, None, None, 99999], 3), ([0, 99999, 99999, 99999], 1)]
        for log, service in cases:
            with self.subTest(log=log):
                self.check(samples.ORDINARY, windows, log, service)

    def test_whatever_the_windows_are(self):
        for windows in [(0,) * 4, (9999,) * 4]:
            self.check(samples.ORDINARY, windows, [0, 1, 6, 9], 2)

    def test_services_that_are_not_reached(self):
        self.check(samples.UNREACHED, (0,) * 5, [0, 5, 1, None, None], 1)
        self.check(samples.UNREACHED, (0,) * 5, [0, 5, 5, 14, None], 1)
        self.check(samples.UNREACHED, (0,) * 5, [0, None, 1, 14, None], 3)
        self.check((2, ()), (0, 0), [0, 0], 1)

    def test_every_log_of_tiny_systems(self):
        chance = random.Random(8)
        told = 0
        for system in TINY:
            windows = least_windows(system)
            possible = logs_of(system, windows)
            for _ in range(30):
                log = list(chance.choice(sorted(possible, key=str)))
                for _ in range(chance.randint(1, 2)):
                    log[chance.randrange(1, system[0])] = chance.choice([None, chance.randint(0, 12)])
                starts = [tuple(log[:many] + [None] * (system[0] - many)) for many in range(1, system[0] + 1)]
                wrong = [service for service, start in enumerate(starts) if start not in possible]
                if wrong:
                    told += 1
                    self.check(system, windows, log, wrong[0])
                else:
                    self.assertEqual(len(explain_log(system, windows, log)) + len(lost_messages(system, windows, log)),
                                     len(sent_messages(system, log)))
        self.assertGreater(told, 300)


class InvalidLogTest(unittest.TestCase):
    def test_index(self):
        for system in samples.SYSTEMS:
            windows = (5,) * system[0]
            for log, index in samples.invalid_logs(system[0]):
                for ask in [explanations, lambda made, items: lost_messages(made, windows, items),
                            lambda made, items: explain_log(made, windows, items)]:
                    with self.assertRaises(InvalidLog) as caught:
                        ask(system, log)
                    self.assertEqual(caught.exception.index, index)
                    self.assertIsInstance(str(caught.exception), str)

    def test_limits_of_times(self):
        self.assertEqual(explanations((2, ()), [0, 99999]), [[], []])
        self.assertEqual(explanations((2, ()), [0, 0]), [[], []])
        for bad in [100000, -1]:
            with self.assertRaises(InvalidLog):
                explanations((2, ()), [0, bad])

    def test_order_of_errors(self):
        for log, _ in samples.invalid_logs(4):
            for ask in [lost_messages, explain_log]:
                with self.assertRaises(InvalidSystem):
                    ask((4, None), (0,) * 4, log)
                with self.assertRaises(InvalidSystem):
                    ask((4, None), None, log)
                with self.assertRaises(InvalidWindows):
                    ask(samples.ORDINARY, (0,) * 3, log)
            with self.assertRaises(InvalidSystem):
                explanations((4, None), log)
        impossible = [0, None, None, 5]
        for ask in [lost_messages, explain_log]:
            with self.assertRaises(InvalidWindows):
                ask(samples.ORDINARY, (0,) * 5, impossible)
            with self.assertRaises(InvalidLog):
                ask(samples.ORDINARY, (0,) * 4, impossible + [5])
            with self.assertRaises(InvalidLog):
                ask(samples.ORDINARY, (0,) * 4, [0, 99, None, True])


if __name__ == "__main__":
    unittest.main()
