"""Tests of onceonly.systems: points 1 and 2 of the document."""

import copy
import unittest

import samples
from onceonly.errors import InvalidSystem, OnceError
from onceonly.systems import reachable_services


class ExamplesTest(unittest.TestCase):
    def test_example(self):
        self.assertEqual(reachable_services((3, ((0, 2, (0,), 1, 1),))), [0, 2])

    def test_example_of_the_error(self):
        with self.assertRaises(InvalidSystem) as caught:
            reachable_services((2, ((1, 0, (0,), 1, 1),)))
        self.assertEqual((caught.exception.part, caught.exception.index), ("calls", 0))


class ReachableServicesTest(unittest.TestCase):
    def test_systems(self):
        cases = [
            (samples.ORDINARY, [0, 1, 2, 3]), (samples.ONE_WAY, [0, 1, 2, 3]), (samples.MEETING, [0, 1, 2, 3, 4]),
            (samples.PARALLEL, [0, 1, 2]), (samples.UNREACHED, [0, 2, 4]), (samples.WIDEST, list(range(8))),
        ]
        for system, reached in cases:
            with self.subTest(system=system):
                self.assertEqual(reachable_services(system), reached)

    def test_without_calls(self):
        for count in range(1, 9):
            self.assertEqual(reachable_services((count, ())), [0])

    def test_called_by_services_that_are_not_reached_only(self):
        self.assertEqual(reachable_services((4, ((1, 2, (0,), 1, 1), (2, 3, (0,), 1, 1)))), [0])

    def test_order_of_calls_does_not_matter(self):
        calls = ((2, 5, (0,), 1, 1), (1, 2, (0,), 1, 1), (0, 1, (0,), 1, 1), (3, 4, (0,), 1, 1))
        self.assertEqual(reachable_services((6, calls)), [0, 1, 2, 5])
        self.assertEqual(reachable_services((6, calls[::-1])), [0, 1, 2, 5])

    def test_edges_of_calls(self):
        for call in [(0, 1, (0,), 0, 0), (0, 1, (99,), 99, 99), (0, 1, (0, 1, 98, 99), 0, 99), (0, 1, (5,), 7, 7)]:
            with self.subTest(call=call):
                self.assertEqual(reachable_services((2, (call,) * 20)), [0, 1])

    def test_last_service_as_target(self):
        self.assertEqual(reachable_services((8, ((0, 6, (0,), 1, 1), (6, 7, (0,), 1, 1)))), [0, 6, 7])

    def test_made_systems(self):
        for system in samples.made_systems(2, 300, 8, 12, 3, 9):
            with self.subTest(system=system):
                reached = {0}
                for _ in range(8):
                    reached |= {call[1] for call in system[1] if call[0] in reached}
                self.assertEqual(reachable_services(system), sorted(reached))


class InvalidSystemTest(unittest.TestCase):
    def test_part_and_index(self):
        for system, part, index in samples.INVALID_SYSTEMS:
            with self.assertRaises(InvalidSystem) as caught:
                reachable_services(system)
            self.assertEqual((caught.exception.part, caught.exception.index), (part, index), part)
            self.assertIsInstance(caught.exception, OnceError)

    def test_message_can_be_written(self):
        for system, _, _ in samples.INVALID_SYSTEMS:
            with self.assertRaises(InvalidSystem) as caught:
                reachable_services(system)
            self.assertIsInstance(str(caught.exception), str)


class ArgumentsTest(unittest.TestCase):
    def test_invalid_arguments_are_not_modified(self):
        for system, _, _ in samples.INVALID_SYSTEMS:
            before = copy.deepcopy(system)
            with self.assertRaises(InvalidSystem):
                reachable_services(system)
            self.assertTrue(before == system)

    def test_returned_list_may_be_modified(self):
        first = reachable_services(samples.ORDINARY)
        first.clear()
        self.assertEqual(reachable_services(samples.ORDINARY), [0, 1, 2, 3])

    def test_repeated_calls_also_after_an_error(self):
        before = reachable_services(samples.UNREACHED)
        with self.assertRaises(InvalidSystem):
            reachable_services((9, samples.UNREACHED[1]))
        self.assertEqual(reachable_services(samples.UNREACHED), before)


if __name__ == "__main__":
    unittest.main()
