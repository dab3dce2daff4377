"""Tests over the whole program: what its parts tell of the same things."""

import random
import unittest

import modelling
import samples
from onceonly.certificates import check_certificate, difference_table
from onceonly.codec import decode_schedule, decode_system, encode_schedule, encode_system
from onceonly.editor import Editor
from onceonly.logs import explain_log, lost_messages
from onceonly.notation import format_schedule, format_system, parse_schedule, parse_system
from onceonly.planning import drop_effects
from onceonly.reuse import least_reuse_time, reuse_conflict
from onceonly.runner import Runner
from onceonly.scripts import run_script, trace_script
from onceonly.simulator import count_acts, simulate
from onceonly.windows import double_act, least_windows

SYSTEMS = samples.SYSTEMS + samples.made_systems(91, 40, 6, 8, 3, 9) + samples.made_systems(92, 20, 8, 20, 4, 99)


def made_runner(seed):
    """Return a system, windows, and a runner for them after operations that chance makes."""
    chance = random.Random(seed)
    system = chance.choice(SYSTEMS)
    windows = chance.choice([least_windows(system), (0,) * system[0], (5,) * system[0]])
    runner, model = Runner(system, windows), modelling.Model(system, windows)
    while len(runner.history()) < 50:
        operation = modelling.made_operation(chance, model)
        if not isinstance(modelling.execute(model, operation), type):
            modelling.execute(runner, operation)
    return system, windows, runner


def script_of(history):
    """Return the script of operations of a runner."""
    rows = []
    for word, *arguments in history:
        numbers = [number for argument in arguments
                   for number in (argument if isinstance(argument, tuple) else (argument,))]
        rows.append(" ".join([word] + [str(number) for number in numbers]))
    return "\n".join(rows)


def played(system, windows, schedule):
    """Return a runner that has played a schedule for a request at time 0."""
    runner = Runner(system, windows)
    runner.add_request(0)
    for entry in schedule:
        runner.deliver(entry[:4], entry[4])
    while runner.step():
        pass
    return runner


class RunnersTest(unittest.TestCase):
    def test_runner_and_simulation(self):
        for seed in range(30):
            system, windows, runner = made_runner(seed)
            times = [operation[1] for operation in runner.history() if operation[0] == "request"]
            while runner.step():
                pass
            self.assertEqual(runner.all_events(), simulate(system, windows, times, runner.schedule()) if times else [])
            if times:
                self.assertEqual(runner.act_counts(), count_acts(system, windows, times, runner.schedule()))

    def test_runner_and_script(self):
        for seed in range(30):
            system, windows, runner = made_runner(seed)
            source = script_of(runner.history())
            self.assertEqual(run_script(system, windows, source), (runner.all_events(), [], {}))
            self.assertEqual(trace_script(system, windows, source), runner.history())
            again = Runner(system, windows)
            again.apply_all(trace_script(system, windows, source))
            self.assertEqual(modelling.tell(again), modelling.tell(runner))

    def test_schedules_written_and_read_again(self):
        for seed in range(30):
            system, _, runner = made_runner(seed)
            schedule = runner.schedule()
            self.assertEqual(parse_schedule(format_schedule(schedule)), schedule)
            self.assertEqual(decode_schedule(system, encode_schedule(system, 9, schedule)), (9, schedule))


class WindowsTest(unittest.TestCase):
    def test_schedules_of_double_acts(self):
        told = 0
        for system in SYSTEMS:
            least = least_windows(system)
            for windows in [(0,) * system[0], tuple(max(0, window - 1) for window in least)]:
                found = double_act(system, windows)
                if found:
                    told += 1
                    service, schedule = found
                    self.assertGreaterEqual(played(system, windows, schedule).act_counts()[service], 2)
                    self.assertLessEqual(max(played(system, least, schedule).act_counts()), 1)
                    self.assertEqual(count_acts(system, windows, [0], schedule),
                                     played(system, windows, schedule).act_counts())
        self.assertGreater(told, 50)

    def test_least_windows_suffice(self):
        chance = random.Random(93)
        for system in SYSTEMS:
            least = least_windows(system)
            self.assertIsNone(check_certificate(system, least, difference_table(system)))
            for share in [0.3, 1]:
                schedule = samples.made_schedule(chance, system, 1, 1, share)
                self.assertLessEqual(max(count_acts(system, least, [0], schedule)), 1)

    def test_logs_of_runs(self):
        chance = random.Random(94)
        for system in SYSTEMS:
            windows = least_windows(system)
            runner = played(system, windows, samples.made_schedule(chance, system, 1, 0, 0.6))
            log = [None] * system[0]
            for time, service, _, is_act in runner.all_events():
                if is_act:
                    log[service] = time
            schedule = explain_log(system, windows, log)
            acts = [event for event in runner.all_events() if event[3]]
            self.assertEqual([event for event in simulate(system, windows, [0], schedule) if event[3]], acts)
            self.assertEqual({entry[2:4] for entry in schedule} & set(lost_messages(system, windows, log)), set())

    def test_keys_that_are_used_again(self):
        for system in SYSTEMS:
            windows = tuple(window + 1 for window in least_windows(system))
            service, schedule = reuse_conflict(system, windows)
            time = least_reuse_time(system, windows)
            early = simulate(system, windows, [0, time - 1], schedule)
            self.assertIn((service, 1, False), [event[1:] for event in early])
            late = simulate(system, windows, [0, time], schedule)
            self.assertEqual([event for event in late if event[2] == 1 and not event[3]], [])


class EditorsTest(unittest.TestCase):
    def edited(self, seed):
        """Return an editor after operations that chance makes."""
        chance = random.Random(seed)
        editor = Editor(chance.choice(SYSTEMS))
        for _ in range(12):
            count, calls = editor.current_system()
            index = chance.randrange(20)
            operation = chance.choice([
                ("add_service",), ("remove_service", chance.randrange(8)), ("remove_call", index),
                ("set_offsets", index, tuple(sorted(chance.sample(range(50), 2)))), ("set_delays", index, 3, 7 + seed),
                ("add_call", (0, count - 1, (seed, seed + 9), 2, 4))])
            try:
                editor.apply_all([operation])
            except ValueError:
                self.assertEqual(editor.current_system(), (count, calls))
        return editor

    def test_edited_systems_written_and_read_again(self):
        for seed in range(30):
            editor = self.edited(seed)
            system = editor.current_system()
            windows = least_windows(system)
            self.assertEqual(editor.window_history()[-1], windows)
            self.assertEqual(parse_system(format_system(system, windows)), (system, windows))
            self.assertEqual(decode_system(encode_system(system, windows)), (system, windows))
            self.assertEqual(least_windows(parse_system(format_system(system, windows))[0]), windows)
            self.assertEqual(least_windows(decode_system(encode_system(system, windows))[0]), windows)

    def test_dropped_attempts(self):
        for system in SYSTEMS:
            for (index, attempt), windows in drop_effects(system):
                offsets = system[1][index][2]
                editor = Editor(system)
                editor.set_offsets(index, offsets[:attempt] + offsets[attempt + 1:])
                self.assertEqual(editor.window_history(), [least_windows(system), windows])


if __name__ == "__main__":
    unittest.main()
