"""Tests of onceonly.reuse: point 9 of the document."""

import random
import unittest

import playing
import samples
from onceonly.differences import act_times
from onceonly.reuse import least_reuse_time, reuse_conflict
from onceonly.windows import least_windows

SMALL = samples.made_systems(5, 60, 4, 4, 2, 2) + samples.made_systems(6, 60, 5, 6, 1, 2)
LARGE = samples.made_systems(7, 60, 8, 20, 4, 99) + samples.made_systems(8, 60, 6, 8, 4, 9)
ALL = samples.SYSTEMS + SMALL + LARGE
TINY = [system for system in samples.made_systems(13, 80, 4, 3, 2, 2) if playing.number_of_schedules(system) <= 70]


def some_windows(system, seed):
    """Return least, shorter, longer and mixed windows."""
    chance = random.Random(seed)
    least = least_windows(system)
    return [
        least, (0,) * system[0], tuple(max(0, window - 1) for window in least), tuple(window + 3 for window in least),
        (9999,) * system[0], tuple(chance.randint(0, 5) for _ in least), tuple(chance.randint(0, 99) for _ in least)]


def acts_once(events):
    """Tell whether each service acts at most once on the first request."""
    acted = [service for _, service, request, remembered in events if request == 0 and remembered is None]
    return len(acted) == len(set(acted))


def conflicts(events):
    """Return the set of services that ignore something of the second request because of the first one."""
    return {service for _, service, request, remembered in events if (request, remembered) == (1, 0)}


def tried_conflicts(system, windows, apart):
    """Return the union of the conflicts of all schedules of the first acts of two requests."""
    schedules = list(playing.all_schedules(system))
    found = set()
    for first in schedules:
        for second in schedules:
            both = first + [(1,) + entry[1:] for entry in second]
            events = playing.play_requests(system, windows, [0, apart], both)
            if acts_once(events):
                found |= conflicts(events)
    return found


class ExamplesTest(unittest.TestCase):
    system = (4, ((0, 1, (0, 10), 1, 3), (0, 2, (0,), 2, 5), (1, 3, (0,), 1, 1), (2, 3, (0, 4), 1, 2)))

    def test_least_reuse_time(self):
        self.assertEqual(least_reuse_time(self.system, (0, 12, 0, 11)), 25)

    def test_reuse_conflict(self):
        self.assertEqual(reuse_conflict(self.system, (0, 12, 0, 11))[0], 1)


class LeastReuseTimeTest(unittest.TestCase):
    def test_windows(self):
        # 1 acts from 1 to 13, 2 from 2 to 5, 3 from 2 to 14.
        cases = [((0, 0, 0, 0), 13), ((0, 1, 0, 0), 14), ((0, 0, 9, 0), 13), ((0, 0, 10, 0), 14), ((0, 0, 0, 1), 14),
                 ((13, 0, 0, 0), 14), ((12, 0, 0, 0), 13), ((9999, 12, 0, 11), 10000), ((9999,) * 4, 10012)]
        for windows, time in cases:
            with self.subTest(windows=windows):
                self.assertEqual(least_reuse_time(samples.ORDINARY, windows), time)

    def test_a_single_service(self):
        for window in [0, 1, 50, 9999]:
            self.assertEqual(least_reuse_time(samples.ALONE, (window,)), window + 1)
            self.assertEqual(reuse_conflict(samples.ALONE, (window,)), (0, []))

    def test_services_that_are_not_reached(self):
        # 2 acts from 1 to 7, 4 from 2 to 11.
        self.assertEqual(least_reuse_time(samples.UNREACHED, (0, 9999, 6, 9999, 0)), 13)
        self.assertEqual(least_reuse_time(samples.UNREACHED, (0, 9999, 0, 9999, 0)), 10)
        self.assertEqual(reuse_conflict(samples.UNREACHED, (0, 9999, 6, 9999, 0))[0], 2)
        self.assertEqual(reuse_conflict(samples.UNREACHED, (0, 9999, 0, 9999, 0))[0], 4)

    def test_greater_than_each_span(self):
        for system in ALL:
            times = act_times(system)
            for windows in some_windows(system, 1):
                spans = {service: windows[service] + late - early for service, (early, late) in times.items()}
                self.assertEqual(least_reuse_time(system, windows), max(spans.values()) + 1)
                first = min(service for service in spans if spans[service] == max(spans.values()))
                self.assertEqual(reuse_conflict(system, windows)[0], first)

    def test_every_schedule_of_tiny_systems(self):
        self.assertGreater(len(TINY), 25)
        for system in TINY:
            windows = random.Random(str(system)).choice(some_windows(system, 2))
            time = least_reuse_time(system, windows)
            with self.subTest(system=system, windows=windows):
                self.assertEqual(tried_conflicts(system, windows, time), set())
                self.assertEqual(min(tried_conflicts(system, windows, time - 1)), reuse_conflict(system, windows)[0])


class ReuseConflictTest(unittest.TestCase):
    def check(self, system, windows):
        found = reuse_conflict(system, windows)
        self.assertIs(type(found), tuple)
        service, schedule = found
        self.assertTrue(playing.is_valid_schedule(system, schedule, 2), schedule)
        time = least_reuse_time(system, windows)
        early = playing.play_requests(system, windows, [0, time - 1], schedule)
        self.assertIn(service, conflicts(early))
        self.assertTrue(acts_once(early))
        for later in (time, time + 1):
            self.assertEqual(conflicts(playing.play_requests(system, windows, [0, later], schedule)), set())

    def test_ordinary_windows(self):
        self.check(samples.ORDINARY, (0, 12, 0, 11))

    def test_made_systems(self):
        for system in ALL:
            for windows in some_windows(system, 3):
                with self.subTest(system=system, windows=windows):
                    self.check(system, windows)

    def test_first_of_several_services(self):
        # With windows of 0, keys are remembered for 0, 12, 3 and 12 ticks after the earliest acts.
        self.assertEqual(reuse_conflict(samples.ORDINARY, (0, 0, 0, 0))[0], 1)
        self.assertEqual(reuse_conflict(samples.ORDINARY, (0, 0, 9, 1))[0], 3)
        self.assertEqual(reuse_conflict(samples.ORDINARY, (0, 0, 10, 1))[0], 2)
        self.assertEqual(reuse_conflict(samples.ORDINARY, (13, 0, 10, 1)), (0, []))

    def test_requests_at_the_same_time(self):
        # Nothing varies, so that one tick is enough.
        system = (2, ((0, 1, (3,), 2, 2),))
        self.assertEqual(least_reuse_time(system, (0, 0)), 1)
        self.assertEqual(reuse_conflict(system, (0, 0)), (0, []))
        self.assertEqual(least_reuse_time(system, (0, 1)), 2)
        self.assertEqual(reuse_conflict(system, (0, 1)), (1, [(0, 0, 0, 0, 2), (1, 0, 0, 0, 2)]))


if __name__ == "__main__":
    unittest.main()
