"""Tests of onceonly.certificates: point 8 of the document."""

import random
import unittest

import samples
from onceonly.certificates import check_certificate, difference_table
from onceonly.differences import difference
from onceonly.errors import InvalidTable
from onceonly.systems import reachable_services
from onceonly.windows import least_windows

SMALL = samples.made_systems(5, 40, 4, 4, 2, 2) + samples.made_systems(6, 40, 5, 6, 1, 2)
LARGE = samples.made_systems(7, 15, 8, 20, 4, 99) + samples.made_systems(8, 20, 6, 8, 4, 9)
ALL = samples.SYSTEMS + SMALL + LARGE

# 1 and 2 are called by 0, 3 by both, each in one attempt.
SINGLE = (4, ((0, 1, (2,), 1, 5), (0, 2, (0,), 3, 4), (1, 3, (0,), 2, 2), (2, 3, (1,), 1, 6)))
SINGLE_TABLE = [[0, -3, -3, -5], [7, 0, 4, 2], [4, 1, 0, -1], [11, 8, 7, 0]]


def small_entries(system, table):
    """Return the ascending list of the pairs whose entries are too small."""
    reached = reachable_services(system)
    found = [(service, service) for service in reached if table[service][service] < 0]
    for caller, target, offsets, least, most in system[1]:
        for other in range(target):
            if caller in reached and other in reached:
                if table[target][other] < table[caller][other] + offsets[-1] + most:
                    found.append((target, other))
                if table[other][target] < table[other][caller] - offsets[0] - least:
                    found.append((other, target))
    return sorted(found)


def short_windows(system, windows, table):
    """Return the ascending list of the services whose windows are too short for a table."""
    reached = reachable_services(system)
    found = []
    for first, one in enumerate(system[1]):
        for second, two in enumerate(system[1]):
            are_calls = one[0] in reached and two[0] in reached and one[1] == two[1]
            if are_calls and (first != second or len(one[2]) > 1):
                if windows[one[1]] < table[one[0]][two[0]] + one[2][-1] + one[4] - two[2][0] - two[3]:
                    found.append(one[1])
    return sorted(found)


def expected(system, windows, table):
    entries = small_entries(system, table)
    if entries:
        return ("entry",) + entries[0]
    services = short_windows(system, windows, table)
    return ("window", services[0]) if services else None


def changed(table, row, column, change):
    rows = [list(entries) for entries in table]
    rows[row][column] += change
    return rows


def pairs(system):
    reached = reachable_services(system)
    return [(service, other) for service in reached for other in reached]


class ExamplesTest(unittest.TestCase):
    def test_difference_table(self):
        table = difference_table((3, ((0, 2, (0, 5), 1, 2),)))
        self.assertEqual(table, [[0, None, -1], [None, None, None], [7, None, 0]])

    def test_windows(self):
        system = (2, ((0, 1, (0, 5), 1, 2),))
        table = [[0, -1], [7, 0]]
        found = [check_certificate(system, (0, 6), table), check_certificate(system, (0, 5), table)]
        self.assertEqual(found, [None, ("window", 1)])

    def test_entry(self):
        found = check_certificate((2, ((0, 1, (0, 5), 1, 2),)), (0, 6), [[0, -1], [6, 0]])
        self.assertEqual(found, ("entry", 1, 0))


class DifferenceTableTest(unittest.TestCase):
    def test_tables(self):
        self.assertEqual(difference_table(SINGLE), SINGLE_TABLE)
        self.assertEqual(difference_table((1, ())), [[0]])
        self.assertEqual(difference_table((2, ())), [[0, None], [None, None]])
        self.assertEqual(difference_table(samples.UNREACHED), [
            [0, None, -1, None, -2], [None] * 5, [7, None, 0, None, -1], [None] * 5, [11, None, 4, None, 0]])

    def test_all_differences(self):
        for system in ALL:
            table = [[None] * system[0] for _ in range(system[0])]
            for service, other in pairs(system):
                table[service][other] = difference(system, service, other)
            self.assertEqual(difference_table(system), table)

    def test_rows_are_not_shared(self):
        for system in [samples.UNREACHED, (5, ())]:
            table = difference_table(system)
            self.assertEqual(len({id(row) for row in table}), system[0])


class CheckCertificateTest(unittest.TestCase):
    def test_table_of_differences_and_least_windows(self):
        for system in ALL:
            table = difference_table(system)
            windows = least_windows(system)
            self.assertIsNone(check_certificate(system, windows, table))
            self.assertIsNone(check_certificate(system, (9999,) * system[0], table))
            for service, window in enumerate(windows):
                if window:
                    shorter = windows[:service] + (window - 1,) + windows[service + 1:]
                    self.assertEqual(check_certificate(system, shorter, table), ("window", service))
                    # The first window is told, also if later ones are too short.
                    shorter = windows[:service] + (window - 1,) + (0,) * (system[0] - service - 1)
                    self.assertEqual(check_certificate(system, shorter, table), ("window", service))

    def test_one_entry_is_too_small(self):
        for system in ALL:
            table = difference_table(system)
            for windows in [least_windows(system), (0,) * system[0]]:
                for service, other in pairs(system):
                    for change in (1, 50):
                        found = check_certificate(system, windows, changed(table, service, other, -change))
                        self.assertEqual(found, ("entry", service, other))

    def test_several_entries_are_too_small(self):
        table = changed(changed(SINGLE_TABLE, 3, 1, -1), 1, 2, -1)
        self.assertEqual(check_certificate(SINGLE, (0,) * 4, table), ("entry", 1, 2))
        table = changed(changed(SINGLE_TABLE, 2, 2, -1), 2, 1, -1)
        self.assertEqual(check_certificate(SINGLE, (0,) * 4, table), ("entry", 2, 1))
        table = changed(changed(SINGLE_TABLE, 0, 3, -1), 3, 0, -1)
        self.assertEqual(check_certificate(SINGLE, (0,) * 4, table), ("entry", 0, 3))

    def test_greater_entries(self):
        windows = least_windows(SINGLE)
        self.assertEqual(windows, (0, 0, 0, 6))
        # No other entry and no window rests on the entries of 3.
        for row, column in [(3, 0), (3, 1), (3, 2), (0, 3), (1, 3), (2, 3), (3, 3)]:
            self.assertIsNone(check_certificate(SINGLE, windows, changed(SINGLE_TABLE, row, column, 5)))
        # Those of 1 and 3, of 3 and 2, and the window of 3 rest on the entry of 1 and 2.
        table = changed(SINGLE_TABLE, 1, 2, 3)
        self.assertEqual(check_certificate(SINGLE, windows, table), ("entry", 1, 3))
        table = changed(table, 1, 3, 3)
        self.assertEqual(check_certificate(SINGLE, windows, table), ("entry", 3, 2))
        table = changed(table, 3, 2, 1)
        self.assertEqual(check_certificate(SINGLE, windows, table), ("entry", 3, 2))
        table = changed(table, 3, 2, 1)
        self.assertEqual(check_certificate(SINGLE, windows, table), ("window", 3))
        self.assertIsNone(check_certificate(SINGLE, (0, 0, 0, 7), table))
        self.assertIsNone(check_certificate(SINGLE, windows, changed(table, 1, 2, -1)))

    def test_greater_entry_of_a_service_and_itself(self):
        system = (2, ((0, 1, (0, 5), 1, 2),))
        self.assertEqual(check_certificate(system, (0, 6), [[1, -1], [7, 0]]), ("entry", 0, 1))
        self.assertEqual(check_certificate(system, (0, 6), [[1, 0], [7, 0]]), ("entry", 1, 0))
        self.assertEqual(check_certificate(system, (0, 6), [[1, 0], [8, 0]]), ("window", 1))
        self.assertIsNone(check_certificate(system, (0, 7), [[1, 0], [8, 0]]))
        self.assertIsNone(check_certificate(system, (0, 6), [[0, -1], [7, 1]]))

    def test_negative_entry_of_a_service_and_itself(self):
        system = (2, ((0, 1, (0, 5), 1, 2),))
        self.assertEqual(check_certificate(system, (0, 0), [[-1, -1], [7, 0]]), ("entry", 0, 0))
        self.assertEqual(check_certificate(system, (0, 0), [[-1, -2], [6, -1]]), ("entry", 0, 0))
        self.assertEqual(check_certificate(system, (0, 0), [[0, -1], [7, -1]]), ("entry", 1, 1))
        self.assertEqual(check_certificate((1, ()), (0,), [[-1]]), ("entry", 0, 0))
        self.assertEqual(check_certificate((1, ()), (0,), [[-9999]]), ("entry", 0, 0))
        self.assertIsNone(check_certificate((1, ()), (0,), [[9999]]))

    def test_one_attempt_and_several_attempts(self):
        # A single message needs no window, whatever its delay; two of them do.
        table = [[0, -1], [10, 0]]
        self.assertIsNone(check_certificate((2, ((0, 1, (0,), 1, 10),)), (0, 0), table))
        self.assertEqual(check_certificate((2, ((0, 1, (0, 1), 1, 9),)), (0, 8), table), ("window", 1))
        self.assertIsNone(check_certificate((2, ((0, 1, (0, 1), 1, 9),)), (0, 9), table))
        twice = (2, ((0, 1, (0,), 1, 10),) * 2)
        self.assertEqual(check_certificate(twice, (0, 8), table), ("window", 1))
        self.assertIsNone(check_certificate(twice, (0, 9), table))

    def test_services_that_are_not_reached(self):
        table = difference_table(samples.UNREACHED)
        self.assertIsNone(check_certificate(samples.UNREACHED, (0, 0, 6, 0, 0), table))
        self.assertEqual(check_certificate(samples.UNREACHED, (0, 0, 5, 0, 0), table), ("window", 2))

    def test_made_tables(self):
        chance = random.Random(4)
        seen = set()
        for system in ALL:
            for _ in range(20):
                table = difference_table(system)
                for _ in range(chance.randint(1, 4)):
                    row, column = chance.choice(pairs(system))
                    table = changed(table, row, column, chance.randint(-2, 9))
                windows = tuple(max(0, window + chance.randint(-1, 9)) for window in least_windows(system))
                found = check_certificate(system, windows, table)
                self.assertEqual(found, expected(system, windows, table))
                seen.add(found if found is None else found[0])
        self.assertEqual(seen, {None, "entry", "window"})

    def test_a_table_shows_only_windows_that_suffice(self):
        chance = random.Random(9)
        shown = 0
        for system in samples.made_systems(3, 200, 3, 3, 2, 2):
            for _ in range(30):
                table = [[None] * system[0] for _ in range(system[0])]
                for row, column in pairs(system):
                    table[row][column] = chance.randint(-4, 9)
                windows = tuple(chance.randint(0, 9) for _ in range(system[0]))
                if check_certificate(system, windows, table) is None:
                    shown += 1
                    self.assertTrue(all(a >= b for a, b in zip(windows, least_windows(system))))
        self.assertGreater(shown, 20)


class InvalidTableTest(unittest.TestCase):
    def check(self, system, table, row, column):
        for windows in [(0,) * system[0], (9999,) * system[0]]:
            with self.assertRaises(InvalidTable) as caught:
                check_certificate(system, windows, table)
            self.assertEqual((caught.exception.row, caught.exception.column), (row, column))
            self.assertIsInstance(str(caught.exception), str)

    def test_row_and_column(self):
        for system in [samples.ALONE, samples.ORDINARY, samples.UNREACHED, (3, ()), SINGLE]:
            reached = reachable_services(system)
            for table, row, column in samples.invalid_tables(reached, difference_table(system)):
                self.check(system, table, row, column)

    def test_limits_of_entries(self):
        system = (2, ((0, 1, (0, 5), 1, 2),))
        self.assertEqual(check_certificate(system, (0, 0), [[9999, 9999], [-9999, 9999]]), ("entry", 1, 0))
        self.assertEqual(check_certificate(system, (0, 0), [[0, -9999], [9999, 0]]), ("entry", 0, 1))
        self.check(system, [[0, 10000], [-9999, 0]], 0, 1)
        self.check(system, [[0, 9999], [-10000, 0]], 1, 0)

    def test_entries_of_services_that_are_not_reached(self):
        system = (3, ((0, 2, (0, 5), 1, 2),))
        for row, column in [(0, 1), (1, 0), (1, 1), (1, 2), (2, 1)]:
            table = difference_table(system)
            table[row][column] = 0
            self.check(system, table, row, column)

    def test_order_of_faults(self):
        system = (3, ((0, 1, (0,), 1, 1), (0, 2, (0,), 1, 1)))
        row = [0, 0, 0]
        self.check(system, [row, [0, None, 0], [0, 0]], 1, 1)
        self.check(system, [row, [0, 0, None], None], 1, 2)
        self.check(system, [row, [0, 0], [None, 0, 0]], 1, 0)
        self.check(system, [row, row, [0, 0, None], row], 2, 2)
        self.check(system, [row, row, row, row], 3, 0)
        self.check(system, [row, row, row, None, None], 3, 0)
        self.check(system, [row, row], 2, 0)
        self.check(system, [row, [0, 0, 10000]], 1, 2)
        self.check(system, [row], 1, 0)
        self.check(system, [], 0, 0)

    def test_a_table_too_small_is_no_error(self):
        self.assertEqual(check_certificate((1, ()), (0,), [[-1]]), ("entry", 0, 0))


if __name__ == "__main__":
    unittest.main()
