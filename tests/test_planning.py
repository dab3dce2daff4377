"""Tests of onceonly.planning: point 11 of the document."""

import itertools
import unittest

import playing
import samples
from onceonly.errors import InvalidSystem, InvalidWindows, TooManyAttempts
from onceonly.planning import drop_effects, fit_windows
from onceonly.windows import least_windows

MADE = samples.made_systems(21, 60, 5, 5, 3, 9)
FEW_ATTEMPTS = [system for system in MADE if len(playing.messages(system)) <= 10]

ONE_CALL = (2, ((0, 1, (0, 5, 9), 1, 2),))
# Service 2 is reached directly and by way of 1, which is slower.
TWO_WAYS = (3, ((0, 1, (0, 7), 1, 3), (0, 2, (0, 2, 20), 1, 1), (1, 2, (4,), 0, 5)))


def reduced(system, dropped):
    """Return a system without some attempts, or None if a call would lose all of its attempts."""
    calls = [list(call) for call in system[1]]
    for index, call in enumerate(calls):
        kept = [call[2][attempt] for attempt in range(len(call[2])) if (index, attempt) not in dropped]
        if not kept:
            return None
        call[2] = tuple(kept)
    return (system[0], tuple(map(tuple, calls)))


def all_choices(system):
    """Return the lists of all attempts that can be dropped together."""
    sent = playing.messages(system)
    choices = [list(choice) for many in range(len(sent) + 1) for choice in itertools.combinations(sent, many)]
    return [choice for choice in choices if reduced(system, choice) is not None]


def with_attempts(number):
    """Return a system whose calls have so many attempts in total."""
    calls = [(0, 1, (0, 5, 9, 20), 1, 2)] * (number // 4)
    if number - 4 * len(calls):
        calls.append((0, 1, (0, 3, 7)[:number - 4 * len(calls)], 1, 2))
    return (2, tuple(calls))


class ExamplesTest(unittest.TestCase):
    def test_drop_effects(self):
        self.assertEqual(drop_effects((2, ((0, 1, (0, 5, 9), 1, 2),))),
                         [((0, 0), (0, 5)), ((0, 1), (0, 10)), ((0, 2), (0, 6))])

    def test_fit_windows(self):
        self.assertEqual(fit_windows((2, ((0, 1, (0, 5, 9), 1, 2),)), (0, 5)), [(0, 0)])


class DropEffectsTest(unittest.TestCase):
    def test_calls_of_one_attempt(self):
        for system in [samples.ALONE, (8, ()), (2, ((0, 1, (4,), 1, 9),)), (3, ((0, 1, (4,), 1, 9),) * 20)]:
            self.assertEqual(drop_effects(system), [])

    def test_only_calls_of_several_attempts(self):
        # Messages arrive at 2 from 1 to 21 and, by way of 1, from 5 to 19.
        self.assertEqual(least_windows(TWO_WAYS), (0, 9, 20))
        self.assertEqual(drop_effects(TWO_WAYS), [
            ((0, 0), (0, 0, 20)), ((0, 1), (0, 0, 20)), ((1, 0), (0, 9, 18)), ((1, 1), (0, 9, 20)),
            ((1, 2), (0, 9, 18))])

    def test_services_that_are_not_reached(self):
        system = (4, ((1, 2, (0, 9), 1, 1), (0, 3, (0, 9), 1, 1)))
        self.assertEqual(drop_effects(system), [
            ((0, 0), (0, 0, 0, 9)), ((0, 1), (0, 0, 0, 9)), ((1, 0), (0, 0, 0, 0)), ((1, 1), (0, 0, 0, 0))])

    def test_least_windows_without_each_attempt(self):
        for system in samples.SYSTEMS + MADE:
            with self.subTest(system=system):
                attempts = [message for message in playing.messages(system) if len(system[1][message[0]][2]) > 1]
                wanted = [(attempt, least_windows(reduced(system, [attempt]))) for attempt in attempts]
                self.assertEqual(drop_effects(system), wanted)
                self.assertEqual(wanted, sorted(wanted))

    def test_kinds_of_values(self):
        found = drop_effects(ONE_CALL)
        self.assertIs(type(found), list)
        self.assertEqual({(type(item), type(item[0]), type(item[1])) for item in found}, {(tuple, tuple, tuple)})


class FitWindowsTest(unittest.TestCase):
    def test_limits(self):
        cases = [
            ((0, 9999), []), ((9999, 10), []), ((0, 10), []), ((0, 9), [(0, 0)]), ((0, 5), [(0, 0)]),
            ((0, 4), [(0, 0), (0, 1)]), ((0, 0), [(0, 0), (0, 1)]), ((9999, 0), [(0, 0), (0, 1)])]
        for limits, dropped in cases:
            with self.subTest(limits=limits):
                self.assertEqual(fit_windows(ONE_CALL, limits), dropped)

    def test_first_in_list_order(self):
        # Two equal calls: whatever is dropped must leave attempts that are close together.
        system = (2, ((0, 1, (0, 9), 1, 1), (0, 1, (0, 9), 1, 1)))
        self.assertEqual(fit_windows(system, (0, 8)), [(0, 0), (1, 0)])
        system = (2, ((0, 1, (0, 6, 12), 1, 1),))
        self.assertEqual(fit_windows(system, (0, 6)), [(0, 0)])
        # Either attempt of the first call is enough, but not one of the second.
        system = (3, ((0, 1, (3, 8), 1, 1), (0, 2, (0, 5), 1, 1)))
        self.assertEqual(fit_windows(system, (0, 4, 5)), [(0, 0)])
        self.assertEqual(fit_windows(system, (0, 5, 4)), [(1, 0)])
        self.assertEqual(fit_windows(system, (0, 4, 4)), [(0, 0), (1, 0)])

    def test_fewest_rather_than_first(self):
        # The last attempt of each call can come late; only those of call 0 that are close to call 1 may stay.
        system = (2, ((0, 1, (0, 30, 60), 1, 1), (0, 1, (1, 90), 1, 1)))
        self.assertEqual(fit_windows(system, (0, 1)), [(0, 1), (0, 2), (1, 1)])
        self.assertEqual(fit_windows(system, (0, 60)), [(1, 1)])

    def test_each_call_keeps_an_attempt(self):
        for limit, dropped in [(8, []), (7, None), (0, None)]:
            self.assertEqual(fit_windows((2, ((0, 1, (5,), 1, 2), (0, 1, (1,), 0, 0)) + ((0, 1, (8,), 1, 1),)),
                                         (0, limit)), dropped)
        self.assertEqual(fit_windows((2, ((0, 1, (5, 8), 1, 1),) * 2), (0, 0)), [(0, 0), (1, 0)])

    def test_limit_of_a_service_that_is_not_reached(self):
        self.assertEqual(fit_windows((3, ((0, 2, (0,), 1, 1), (1, 2, (0, 50), 1, 90))), (0, 0, 0)), [])

    def test_every_choice(self):
        self.assertGreater(len(FEW_ATTEMPTS), 25)
        told = {}
        for system in FEW_ATTEMPTS:
            choices = [(choice, least_windows(reduced(system, choice))) for choice in all_choices(system)]
            limits = {windows for _, windows in choices[::3]}
            limits |= {tuple(max(0, window - 1) for window in windows) for windows in limits}
            for limit in sorted(limits):
                fitting = [choice for choice, windows in choices if all(w <= most for w, most in zip(windows, limit))]
                wanted = min(fitting, key=lambda choice: (len(choice), choice)) if fitting else None
                self.assertEqual(fit_windows(system, limit), wanted, (system, limit))
                told[len(wanted) if fitting else None] = True
        self.assertGreaterEqual(set(told), {None, 0, 1, 2, 3})

    def test_number_of_attempts(self):
        for number in [8, 9, 10]:
            self.assertEqual(len(playing.messages(with_attempts(number))), number)
            self.assertEqual(fit_windows(with_attempts(number), (0, 9999)), [])
        self.assertIsNotNone(fit_windows(with_attempts(10), (0, 1)))
        self.assertIsNone(fit_windows(with_attempts(10), (0, 0)))
        self.assertEqual(fit_windows((2, ((0, 1, (5,), 1, 1),) * 10), (0, 0)), [])
        for system in [with_attempts(11), with_attempts(12), (2, ((0, 1, (5,), 1, 1),) * 11), samples.WIDEST,
                       (3, ((1, 2, (5,), 1, 1),) * 11)]:
            with self.assertRaises(TooManyAttempts):
                fit_windows(system, (9999,) * system[0])

    def test_order_of_errors(self):
        many = with_attempts(11)
        for limits, index in samples.invalid_windows(2):
            with self.assertRaises(InvalidWindows) as caught:
                fit_windows(many, limits)
            self.assertEqual(caught.exception.index, index)
            with self.assertRaises(InvalidSystem):
                fit_windows((2, many[1] + (None,)), limits)


if __name__ == "__main__":
    unittest.main()
