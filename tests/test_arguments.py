"""Tests of points 1 to 4 of the document for all functions that take a system."""

import copy
import unittest

import modelling
import samples
from onceonly.certificates import check_certificate, difference_table
from onceonly.codec import decode_schedule, decode_system, encode_schedule, encode_system, pack_bytes, unpack_bytes
from onceonly.differences import act_times, difference, difference_schedule
from onceonly.editor import Editor
from onceonly.errors import InvalidSystem, InvalidWindows
from onceonly.logs import explain_log, explanations, lost_messages
from onceonly.notation import format_schedule, format_system, parse_schedule, parse_system
from onceonly.planning import drop_effects, fit_windows
from onceonly.reuse import least_reuse_time, reuse_conflict
from onceonly.runner import Runner
from onceonly.scripts import run_script, trace_script
from onceonly.simulator import count_acts, simulate
from onceonly.systems import reachable_services
from onceonly.windows import deciding_messages, double_act, least_windows, memory_needs

SYSTEM = samples.ORDINARY
WINDOWS = (0, 12, 0, 11)
SHORT = (0, 3, 0, 2)
TABLE = [[0, -1, -2, -2], [13, 0, 11, 10], [5, 4, 0, 3], [14, 10, 12, 0]]
SMALL_TABLE = [[0, -1, -2, -2], [13, 0, 11, 10], [5, 4, 0, 3], [14, 10, 11, 0]]

SCHEDULE = [(0, 0, 0, 0, 1), (0, 0, 0, 1, 3), (0, 0, 2, 0, 1), (1, 0, 1, 0, 4), (1, 0, 3, 1, 2), (1, 1, 0, 0, 2)]


def told_by_a_runner(system, windows):
    """Return the results of operations of a runner, and what it tells after some of them."""
    runner = Runner(system, windows)
    results = runner.apply_all([("request", 2), ("deliver", (0, 0, 0, 1), 2), ("request", 6), ("run", 8), ("step",)])
    runner.deliver((1, 0, 3, 1), 1)
    runner.save("kept")
    runner.undo()
    return [results, runner.history(), runner.checkpoints()] + list(modelling.tell(runner))


def told_by_an_editor(system):
    """Return the results of operations of an editor, and what it tells after some of them."""
    editor = Editor(system)
    results = editor.apply_all([("add_service",), ("add_call", (1, 4, (0, 3), 1, 2)), ("remove_call", 3),
                                ("set_offsets", 0, (1, 2)), ("set_delays", 1, 0, 9), ("remove_call", 3)])
    editor.save("kept")
    editor.remove_service(4)
    editor.undo()
    return [results, editor.history(), editor.checkpoints(), editor.current_system(), editor.window_history()]


SOURCE = "request 2\ndeliver 0 0 0 1 2\nset n 1\nrequest 6\nrun 8\nprint acts.0\nadd n now\nstep\nprint key.1"

CALLS = [
    (reachable_services, (SYSTEM,)), (difference, (SYSTEM, 3, 1)), (difference_schedule, (SYSTEM, 3, 1)),
    (act_times, (SYSTEM,)), (least_windows, (SYSTEM,)), (deciding_messages, (SYSTEM,)),
    (double_act, (SYSTEM, WINDOWS)), (double_act, (SYSTEM, SHORT)), (memory_needs, (SYSTEM, WINDOWS, 5)),
    (difference_table, (SYSTEM,)), (difference_table, (samples.UNREACHED,)),
    (check_certificate, (SYSTEM, WINDOWS, TABLE)), (check_certificate, (SYSTEM, SHORT, TABLE)),
    (check_certificate, (SYSTEM, WINDOWS, SMALL_TABLE)), (least_reuse_time, (SYSTEM, WINDOWS)),
    (reuse_conflict, (SYSTEM, WINDOWS)), (explanations, (SYSTEM, [0, 11, None, 12])),
    (lost_messages, (SYSTEM, WINDOWS, [0, 11, None, 12])), (explain_log, (SYSTEM, WINDOWS, [0, 2, None, 3])),
    (drop_effects, (SYSTEM,)), (fit_windows, (SYSTEM, WINDOWS)), (fit_windows, (SYSTEM, SHORT)),
    (fit_windows, (SYSTEM, (0, 0, 0, 0))), (simulate, (SYSTEM, WINDOWS, [0, 5], SCHEDULE)),
    (count_acts, (SYSTEM, SHORT, [0, 5], SCHEDULE)), (told_by_a_runner, (SYSTEM, WINDOWS)),
    (told_by_a_runner, (SYSTEM, SHORT)), (told_by_an_editor, (SYSTEM,)), (run_script, (SYSTEM, WINDOWS, SOURCE)),
    (trace_script, (SYSTEM, SHORT, SOURCE)), (format_system, (SYSTEM, WINDOWS)), (encode_system, (SYSTEM, WINDOWS)),
    (encode_schedule, (SYSTEM, 2, SCHEDULE)), (decode_schedule, (SYSTEM, encode_schedule(SYSTEM, 2, SCHEDULE))),
]

# Calls of functions that do not take a system.
OTHER_CALLS = [
    (parse_system, (format_system(SYSTEM, WINDOWS),)), (format_schedule, (SCHEDULE,)),
    (parse_schedule, (format_schedule(SCHEDULE),)), (decode_system, (encode_system(SYSTEM, WINDOWS),)),
    (pack_bytes, ([83, 0, 255],)), (unpack_bytes, (b"S\x00",)),
]

# What stands behind the system in a call, and what behind the windows.
WITH_SYSTEM = [(ask, arguments[1:]) for ask, arguments in CALLS]
WITH_WINDOWS = [(ask, arguments[2:]) for ask, arguments in CALLS if arguments[1:2] in [(WINDOWS,), (SHORT,)]]


def spoil(value):
    """Modify a value, and what it contains, in every way that a caller can."""
    if isinstance(value, dict):
        for item in value.values():
            spoil(item)
        value.clear()
    if isinstance(value, (list, tuple)):
        for item in value:
            spoil(item)
    if isinstance(value, list):
        value.reverse()
        value.append("spoiled")


class RepeatedCallsTest(unittest.TestCase):
    def test_results_are_of_every_kind(self):
        results = [ask(*arguments) for ask, arguments in CALLS if ask in (double_act, check_certificate)]
        self.assertEqual([result if result is None else result[0] for result in results],
                         [None, 1, None, "window", "entry"])

    def test_results_may_be_modified(self):
        for ask, arguments in CALLS + OTHER_CALLS:
            with self.subTest(ask=ask.__name__):
                first = ask(*arguments)
                kept = copy.deepcopy(first)
                self.assertEqual(ask(*arguments), kept)
                spoil(first)
                self.assertEqual(ask(*arguments), kept)
                self.assertEqual(ask(*copy.deepcopy(arguments)), kept)

    def test_arguments_stay_as_they_were(self):
        for ask, arguments in CALLS + OTHER_CALLS:
            with self.subTest(ask=ask.__name__):
                given = copy.deepcopy(arguments)
                result = ask(*given)
                self.assertEqual(given, arguments)
                spoil(result)
                self.assertEqual(given, arguments)

    def test_arguments_are_not_kept(self):
        for ask, arguments in CALLS + OTHER_CALLS:
            with self.subTest(ask=ask.__name__):
                given = copy.deepcopy(arguments)
                result = ask(*given)
                kept = copy.deepcopy(result)
                spoil(given)
                self.assertEqual(result, kept)
                self.assertEqual(ask(*arguments), kept)

    def test_calls_after_an_error(self):
        for ask, arguments in CALLS:
            with self.subTest(ask=ask.__name__):
                before = ask(*arguments)
                with self.assertRaises(InvalidSystem):
                    ask((4, None), *arguments[1:])
                self.assertEqual(ask(*arguments), before)

    def test_invalid_arguments_stay_as_they_were(self):
        for table, _, _ in samples.invalid_tables(range(4), TABLE):
            given = copy.deepcopy(table)
            with self.assertRaises(ValueError):
                check_certificate(SYSTEM, WINDOWS, given)
            self.assertEqual(given, table)
        for log, _ in samples.invalid_logs(4):
            given = copy.deepcopy(log)
            for ask in [lost_messages, explain_log]:
                with self.assertRaises(ValueError):
                    ask(SYSTEM, WINDOWS, given)
                self.assertEqual(given, log)
        for times, _ in samples.invalid_times():
            given = copy.deepcopy(times)
            with self.assertRaises(ValueError):
                simulate(SYSTEM, WINDOWS, given, [])
            self.assertEqual(given, times)
        for schedule, _ in samples.invalid_schedules():
            given = copy.deepcopy(schedule)
            with self.assertRaises(ValueError):
                simulate(SYSTEM, WINDOWS, [0, 5], given)
            with self.assertRaises(ValueError):
                encode_schedule(SYSTEM, 2, given)
            self.assertEqual(given, schedule)


class InvalidSystemsTest(unittest.TestCase):
    def check(self, ask, system, rest, part, index):
        with self.assertRaises(InvalidSystem) as caught:
            ask(system, *rest)
        self.assertEqual((caught.exception.part, caught.exception.index), (part, index))

    def test_part_and_index(self):
        for ask, rest in WITH_SYSTEM:
            for system, part, index in samples.INVALID_SYSTEMS:
                self.check(ask, system, rest, part, index)

    def test_the_system_is_checked_first(self):
        for ask, rest in WITH_SYSTEM:
            for bad in [None, True, -1, "", (), [], [None]]:
                self.check(ask, (3, ()) * 2, (bad,) * len(rest), "system", 0)
                self.check(ask, (9, ()), (bad,) * len(rest), "count", 0)
                self.check(ask, (4, (samples.GOOD, None)), (bad,) * len(rest), "calls", 1)


class InvalidWindowsTest(unittest.TestCase):
    def check(self, ask, system, windows, rest, index):
        with self.assertRaises(InvalidWindows) as caught:
            ask(system, windows, *rest)
        self.assertEqual(caught.exception.index, index)
        self.assertIsInstance(str(caught.exception), str)

    def test_functions(self):
        self.assertEqual({ask.__name__ for ask, _ in WITH_WINDOWS}, {
            "double_act", "memory_needs", "check_certificate", "least_reuse_time", "reuse_conflict", "lost_messages",
            "explain_log", "fit_windows", "simulate", "count_acts", "told_by_a_runner", "run_script", "trace_script",
            "format_system", "encode_system"})

    def test_index(self):
        for ask, rest in WITH_WINDOWS:
            for windows, index in samples.invalid_windows(4):
                self.check(ask, SYSTEM, windows, rest, index)

    def test_index_in_other_systems(self):
        for system in [samples.ALONE, samples.UNREACHED, samples.WIDEST]:
            for windows, index in samples.invalid_windows(system[0]):
                self.check(double_act, system, windows, (), index)
                self.check(least_reuse_time, system, windows, (), index)

    def test_windows_are_checked_before_what_stands_behind_them(self):
        for ask, rest in WITH_WINDOWS:
            for bad in [None, True, 0, 10000, "", (), [], [None]]:
                self.check(ask, SYSTEM, (0, 12, 0), (bad,) * len(rest), 3)
                self.check(ask, SYSTEM, (0, 12, 0, 11, 0), (bad,) * len(rest), 4)
                self.check(ask, SYSTEM, None, (bad,) * len(rest), 0)

    def test_edges_are_valid(self):
        for windows in [(0,) * 4, (9999,) * 4]:
            for ask, rest in WITH_WINDOWS:
                ask(SYSTEM, windows, *rest)


if __name__ == "__main__":
    unittest.main()
