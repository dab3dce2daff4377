"""Tests of onceonly.differences: points 1 to 5 of the document."""

import unittest

import playing
import samples
from onceonly.differences import act_times, difference, difference_schedule
from onceonly.errors import InvalidSystem, UnknownService
from onceonly.systems import reachable_services

NOT_SERVICES = [None, True, False, "0", "", "1", (), (0,), [], [0], -1, 100, samples.HUGE]

SMALL = samples.made_systems(5, 60, 4, 4, 2, 2) + samples.made_systems(6, 60, 5, 6, 1, 2)
LARGE = samples.made_systems(7, 60, 8, 20, 4, 99) + samples.made_systems(8, 60, 6, 8, 4, 9)


def pairs(system):
    reached = reachable_services(system)
    return [(service, other) for service in reached for other in reached]


class ExamplesTest(unittest.TestCase):
    def test_difference(self):
        system = (4, ((0, 1, (0, 10), 1, 3), (0, 2, (0,), 2, 5), (1, 3, (0,), 1, 1), (2, 3, (0, 4), 1, 2)))
        found = [difference(system, 1, 2), difference(system, 2, 1), difference(system, 3, 0)]
        self.assertEqual(found, [11, 4, 14])

    def test_difference_of_unknown_service(self):
        with self.assertRaises(UnknownService):
            difference((3, ((0, 2, (0,), 1, 1),)), 1, 0)

    def test_difference_schedule(self):
        system = (2, ((0, 1, (0, 5), 1, 2),))
        self.assertEqual(difference_schedule(system, 1, 0), [(0, 0, 0, 1, 2)])

    def test_act_times(self):
        system = (4, ((0, 1, (0, 10), 1, 3), (0, 2, (0,), 2, 5), (1, 3, (0,), 1, 1), (2, 3, (0, 4), 1, 2)))
        self.assertEqual(act_times(system), {0: (0, 0), 1: (1, 13), 2: (2, 5), 3: (2, 14)})


class DifferenceTest(unittest.TestCase):
    def check(self, system, expected):
        for (service, other), value in expected.items():
            with self.subTest(service=service, other=other):
                self.assertEqual(difference(system, service, other), value)

    def test_one_way(self):
        # 1 acts 3 to 11 after 0, 2 acts 5 to 14 after 1, 3 acts 1 to 7 after 2.
        self.check(samples.ONE_WAY, {
            (1, 0): 11, (0, 1): -3, (2, 1): 14, (1, 2): -5, (2, 0): 25, (0, 2): -8,
            (3, 2): 7, (2, 3): -1, (3, 1): 21, (1, 3): -6, (3, 0): 32, (0, 3): -9})

    def test_ways_that_part_and_meet_again(self):
        # 1 acts 0 to 59 after 0; this shared way does not count between the services behind it.
        self.check(samples.MEETING, {
            (1, 0): 59, (0, 1): 0, (2, 3): 0, (3, 2): 11, (2, 1): 5, (1, 2): -1, (3, 1): 12, (1, 3): -5,
            (4, 1): 14, (1, 4): -2, (4, 2): 13, (2, 4): -1, (4, 3): 2, (3, 4): 10,
            (4, 0): 73, (0, 4): -2})

    def test_several_calls_between_the_same_services(self):
        # 1 acts 3 to 15 after 0, 2 acts 1 to 7 after 1.
        self.check(samples.PARALLEL, {(1, 0): 15, (0, 1): -3, (2, 1): 7, (1, 2): -1, (2, 0): 22, (0, 2): -4})

    def test_calls_of_services_that_are_not_reached_do_not_count(self):
        self.check(samples.UNREACHED, {(2, 0): 7, (0, 2): -1, (4, 2): 4, (2, 4): -1, (4, 0): 11, (0, 4): -2})

    def test_greatest_numbers(self):
        self.check(samples.WIDEST, {(7, 0): 7 * 198, (0, 7): 0, (6, 7): 6 * 198, (7, 6): 198, (1, 7): 198})

    def test_a_service_and_itself(self):
        for system in samples.SYSTEMS + LARGE:
            for service in reachable_services(system):
                self.assertEqual(difference(system, service, service), 0)

    def test_every_schedule_of_small_systems(self):
        for system in SMALL:
            with self.subTest(system=system):
                tried = playing.tried_differences(system)
                self.assertEqual(set(tried), set(pairs(system)))
                self.assertEqual({pair: difference(system, *pair) for pair in pairs(system)}, tried)

    def test_no_greater_difference_in_large_systems(self):
        # If the last call of the greater service cannot exceed a table of differences, nothing can.
        for system in samples.SYSTEMS + LARGE:
            reached = reachable_services(system)
            table = {pair: difference(system, *pair) for pair in pairs(system)}
            for caller, target, offsets, least, most in system[1]:
                for other in reached:
                    if caller in reached and other < target:
                        late = table[caller, other] + offsets[-1] + most
                        early = table[other, caller] - offsets[0] - least
                        self.assertGreaterEqual(table[target, other], late)
                        self.assertGreaterEqual(table[other, target], early)


class DifferenceScheduleTest(unittest.TestCase):
    def check(self, system, service, other):
        schedule = difference_schedule(system, service, other)
        self.assertTrue(playing.is_valid_schedule(system, schedule), schedule)
        # The schedule does not rest on windows: with the shortest ones, too, no service acts twice.
        for windows in [(0,) * system[0], (9999,) * system[0]]:
            acts = playing.play(system, windows, schedule)
            self.assertTrue(all(len(times) <= 1 for times in acts))
            self.assertEqual([len(acts[service]), len(acts[other])], [1, 1])
            self.assertEqual(acts[service][0] - acts[other][0], difference(system, service, other))

    def test_ordinary_systems(self):
        for system in samples.SYSTEMS:
            for service, other in pairs(system):
                with self.subTest(system=system, service=service, other=other):
                    self.check(system, service, other)

    def test_made_systems(self):
        for system in SMALL + LARGE:
            for service, other in pairs(system):
                with self.subTest(system=system, service=service, other=other):
                    self.check(system, service, other)

    def test_ways_that_share_their_first_part(self):
        schedule = difference_schedule(samples.MEETING, 3, 2)
        self.assertEqual([entry[2] for entry in schedule], [0, 1, 2])
        self.assertEqual(schedule[1:], [(0, 0, 1, 0, 1), (0, 0, 2, 0, 8)])

    def test_a_service_and_itself_acts(self):
        for system in samples.SYSTEMS:
            for service in reachable_services(system):
                schedule = difference_schedule(system, service, service)
                self.assertEqual(len(playing.play(system, (9999,) * system[0], schedule)[service]), 1)
        self.assertEqual(difference_schedule(samples.ORDINARY, 0, 0), [])

    def test_returned_list_may_be_modified(self):
        first = difference_schedule(samples.ORDINARY, 3, 1)
        kept = list(first)
        first.clear()
        self.assertEqual(difference_schedule(samples.ORDINARY, 3, 1), kept)
        self.assertTrue(kept)


class ActTimesTest(unittest.TestCase):
    def test_ordinary_systems(self):
        cases = [
            (samples.ONE_WAY, {0: (0, 0), 1: (3, 11), 2: (8, 25), 3: (9, 32)}),
            (samples.MEETING, {0: (0, 0), 1: (0, 59), 2: (1, 64), 3: (5, 71), 4: (2, 73)}),
            (samples.PARALLEL, {0: (0, 0), 1: (3, 15), 2: (4, 22)}),
            (samples.UNREACHED, {0: (0, 0), 2: (1, 7), 4: (2, 11)}),
            (samples.ALONE, {0: (0, 0)}), ((8, ()), {0: (0, 0)}),
        ]
        for system, times in cases:
            with self.subTest(system=system):
                self.assertEqual(act_times(system), times)

    def test_ascending_keys_of_reached_services_alone(self):
        for system in samples.SYSTEMS + SMALL + LARGE:
            self.assertEqual(list(act_times(system)), reachable_services(system))

    def test_same_as_the_differences_from_service_0(self):
        for system in samples.SYSTEMS + LARGE:
            for service, times in act_times(system).items():
                self.assertEqual(times, (-difference(system, 0, service), difference(system, service, 0)))

    def test_every_schedule_of_small_systems(self):
        for system in SMALL:
            with self.subTest(system=system):
                self.assertEqual(act_times(system), playing.tried_act_times(system))

    def test_kinds_of_values(self):
        times = act_times(samples.ORDINARY)
        self.assertIs(type(times), dict)
        self.assertTrue(all(type(value) is tuple and len(value) == 2 for value in times.values()))

    def test_returned_dict_may_be_modified(self):
        first = act_times(samples.ORDINARY)
        first.clear()
        self.assertEqual(list(act_times(samples.ORDINARY)), [0, 1, 2, 3])


class WrongArgumentsTest(unittest.TestCase):
    def test_unknown_services(self):
        for ask in [difference, difference_schedule]:
            for service in NOT_SERVICES + [1, 3, 5, 8]:
                with self.assertRaises(UnknownService):
                    ask(samples.UNREACHED, service, 0)
                with self.assertRaises(UnknownService):
                    ask(samples.UNREACHED, 2, service)
                with self.assertRaises(UnknownService):
                    ask(samples.UNREACHED, service, service)

    def test_true_and_false_are_not_services(self):
        for ask in [difference, difference_schedule]:
            for service, other in [(True, 0), (0, True), (False, 1), (1, False)]:
                with self.assertRaises(UnknownService):
                    ask(samples.ORDINARY, service, other)

    def test_invalid_systems(self):
        for system, part, index in samples.INVALID_SYSTEMS:
            for ask in [act_times, lambda made: difference(made, 0, 0), lambda made: difference_schedule(made, 0, 0)]:
                with self.assertRaises(InvalidSystem) as caught:
                    ask(system)
                self.assertEqual((caught.exception.part, caught.exception.index), (part, index))

    def test_the_system_is_checked_first(self):
        for ask in [difference, difference_schedule]:
            for service in NOT_SERVICES:
                with self.assertRaises(InvalidSystem):
                    ask((0, ()), service, 0)
                with self.assertRaises(InvalidSystem):
                    ask((2, (None,)), 0, service)

    def test_repeated_calls_also_after_an_error(self):
        before = [difference(samples.ORDINARY, 3, 1), difference_schedule(samples.ORDINARY, 3, 1)]
        for ask in [difference, difference_schedule]:
            with self.assertRaises(UnknownService):
                ask(samples.ORDINARY, 3, 4)
            with self.assertRaises(InvalidSystem):
                ask((4, None), 3, 1)
        self.assertEqual([difference(samples.ORDINARY, 3, 1), difference_schedule(samples.ORDINARY, 3, 1)], before)


if __name__ == "__main__":
    unittest.main()
