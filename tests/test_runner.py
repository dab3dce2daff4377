"""Tests of onceonly.runner: point 13 of the document."""

import copy
import random
import unittest

import modelling
import samples
from onceonly.errors import InvalidMessage, InvalidSystem, InvalidTime, InvalidWindows, TooLate
from onceonly.runner import Runner
from onceonly.simulator import count_acts, simulate
from onceonly.windows import double_act, least_windows

SYSTEM = (2, ((0, 1, (0, 10), 2, 5),))
CHAIN = (3, ((0, 1, (0, 4, 8), 0, 3), (1, 2, (0, 2), 0, 3)))
# Each service can act at the time at which it is called.
AT_ONCE = (3, ((0, 1, (0, 5), 0, 5), (1, 2, (0, 5), 0, 5), (0, 2, (0, 5), 0, 5)))


def runner_after(system, windows, operations):
    """Return a runner after some operations, none of which fails."""
    runner = Runner(system, windows)
    for operation in operations:
        modelling.execute(runner, operation)
    return runner


class ExamplesTest(unittest.TestCase):
    def setUp(self):
        self.runner = Runner(SYSTEM, (0, 8))

    def test_add_request(self):
        self.assertEqual(self.runner.add_request(3), 0)
        with self.assertRaises(TooLate):
            self.runner.add_request(3)

    def test_step(self):
        self.runner.add_request(3)
        self.runner.deliver((0, 0, 0, 1), 4)
        events = [self.runner.step(), self.runner.step(), self.runner.step()]
        self.assertEqual(events, [(3, 0, 0, True), (17, 1, 0, True), None])

    def test_deliver_too_late(self):
        self.runner.add_request(3)
        self.runner.step()
        with self.assertRaises(TooLate):
            self.runner.deliver((0, 0, 0, 0), 4)

    def test_lose(self):
        with self.assertRaises(InvalidMessage):
            self.runner.lose((0, 0, 0, 1))
        self.runner.add_request(3)
        self.runner.deliver((0, 0, 0, 1), 4)
        self.runner.lose((0, 0, 0, 1))
        self.assertEqual(self.runner.schedule(), [])

    def test_run_to(self):
        self.runner.add_request(3)
        self.assertEqual(self.runner.run_to(9), [(3, 0, 0, True)])

    def test_what_it_tells(self):
        runner = Runner(SYSTEM, (6, 8))
        runner.add_request(3)
        runner.deliver((0, 0, 0, 1), 4)
        runner.run_to(9)
        told = [runner.current_time(), runner.act_counts(), runner.remembering(), runner.coming()]
        self.assertEqual(told, [9, [1, 0], [True, False], [(17, 1, 0)]])


class RequestsTest(unittest.TestCase):
    def test_new_runner(self):
        for system in samples.SYSTEMS:
            runner = Runner(system, (5,) * system[0])
            self.assertEqual(modelling.tell(runner), (-1, [], [0] * system[0], [False] * system[0], [], []))
            self.assertIsNone(runner.step())

    def test_numbers(self):
        runner = Runner(SYSTEM, (0, 0))
        times = [0, 1, 5, 6, 7, 30, 99997, 99998, 99999]
        self.assertEqual([runner.add_request(time) for time in times], list(range(9)))
        self.assertEqual(runner.coming(), [(time, 0, request) for request, time in enumerate(times)])
        self.assertEqual(runner.run_to(99999), [(time, 0, request, True) for request, time in enumerate(times)])

    def test_invalid_times(self):
        for operations in [[], [("request", 3)], [("request", 3), ("run", 70)]]:
            runner = runner_after(SYSTEM, (0, 0), operations)
            before = modelling.tell(runner)
            for time in samples.BAD_TIMES + [None]:
                with self.assertRaises(InvalidTime):
                    runner.add_request(time)
                self.assertEqual(modelling.tell(runner), before)

    def test_nine_requests(self):
        runner = runner_after(SYSTEM, (0, 0), [("request", 10 * k) for k in range(8)])
        self.assertEqual(runner.add_request(80), 8)
        # A tenth one is told ahead of a time that has passed.
        for time in [81, 99999, 80, 0, -1, None]:
            with self.assertRaises(InvalidTime):
                runner.add_request(time)
        runner.run_to(99)
        with self.assertRaises(InvalidTime):
            runner.add_request(99)
        self.assertEqual(len(runner.all_events()), 9)

    def test_too_late(self):
        runner = Runner(SYSTEM, (0, 0))
        runner.add_request(10)
        for time in [10, 9, 0]:
            with self.assertRaises(TooLate):
                runner.add_request(time)
        self.assertEqual(runner.add_request(11), 1)
        runner.run_to(20)
        for time in [20, 19, 11, 0]:
            with self.assertRaises(TooLate):
                runner.add_request(time)
        self.assertEqual(runner.add_request(21), 2)
        runner.step()
        with self.assertRaises(TooLate):
            runner.add_request(21)
        self.assertEqual(runner.add_request(22), 3)

    def test_a_request_before_one_to_come(self):
        runner = runner_after(SYSTEM, (0, 0), [("request", 50), ("run", 20)])
        for time in [20, 21, 49, 50]:
            with self.assertRaises(TooLate):
                runner.add_request(time)
        self.assertEqual(runner.coming(), [(50, 0, 0)])

    def test_first_time(self):
        runner = Runner(SYSTEM, (0, 0))
        self.assertEqual(runner.add_request(0), 0)
        self.assertEqual(runner.step(), (0, 0, 0, True))
        self.assertEqual(runner_after(SYSTEM, (0, 0), [("run", 0)]).current_time(), 0)
        with self.assertRaises(TooLate):
            runner_after(SYSTEM, (0, 0), [("run", 0)]).add_request(0)


class MessagesTest(unittest.TestCase):
    def test_deliver_and_lose(self):
        runner = Runner(SYSTEM, (0, 0))
        runner.add_request(3)
        self.assertIsNone(runner.deliver((0, 0, 0, 1), 4))
        self.assertEqual(runner.schedule(), [(0, 0, 0, 1, 4)])
        self.assertIsNone(runner.deliver((0, 0, 0, 0), 2))
        self.assertEqual(runner.schedule(), [(0, 0, 0, 0, 2), (0, 0, 0, 1, 4)])
        self.assertIsNone(runner.deliver((0, 0, 0, 1), 5))
        self.assertEqual(runner.schedule(), [(0, 0, 0, 0, 2), (0, 0, 0, 1, 5)])
        self.assertIsNone(runner.lose((0, 0, 0, 0)))
        self.assertIsNone(runner.lose((0, 0, 0, 0)))
        self.assertEqual(runner.schedule(), [(0, 0, 0, 1, 5)])
        # Nothing comes before the request has arrived.
        self.assertEqual(runner.coming(), [(3, 0, 0)])
        self.assertEqual(runner.run_to(99), [(3, 0, 0, True), (18, 1, 0, True)])
        self.assertEqual(runner.schedule(), [(0, 0, 0, 1, 5)])

    def test_messages_to_come_are_decided_anew(self):
        runner = runner_after(SYSTEM, (0, 0), [("request", 3), ("deliver", (0, 0, 0, 1), 4), ("step",)])
        self.assertEqual(runner.coming(), [(17, 1, 0)])
        runner.deliver((0, 0, 0, 1), 2)
        self.assertEqual(runner.coming(), [(15, 1, 0)])
        runner.lose((0, 0, 0, 1))
        self.assertEqual(runner.coming(), [])
        runner.deliver((0, 0, 0, 1), 5)
        self.assertEqual(runner.coming(), [(18, 1, 0)])
        self.assertEqual(runner.step(), (18, 1, 0, True))

    def test_messages_that_have_been_sent(self):
        # The message is sent at 13.
        for time, is_sent in [(3, False), (12, False), (13, True), (14, True), (99, True)]:
            for before in [[], [("deliver", (0, 0, 0, 1), 4)]]:
                for operation in [("deliver", (0, 0, 0, 1), 5), ("lose", (0, 0, 0, 1))]:
                    runner = runner_after(SYSTEM, (0, 0), [("request", 3)] + before + [("run", time)])
                    told = modelling.tell(runner)
                    if is_sent:
                        with self.assertRaises(TooLate):
                            modelling.execute(runner, operation)
                        self.assertEqual(modelling.tell(runner), told)
                    else:
                        modelling.execute(runner, operation)
                        wanted = [(0, 0, 0, 1, 5)] if operation[0] == "deliver" else []
                        self.assertEqual(runner.schedule(), wanted)

    def test_time_at_which_a_message_has_been_sent_is_that_of_the_runner(self):
        # Both messages of the act at 3 are sent before the time that a step of another service reaches.
        runner = runner_after(SYSTEM, (0, 0), [("request", 3), ("request", 13), ("step",)])
        runner.deliver((0, 0, 0, 1), 2)
        runner.step()
        self.assertEqual(runner.current_time(), 13)
        with self.assertRaises(TooLate):
            runner.lose((0, 0, 0, 1))
        with self.assertRaises(TooLate):
            runner.lose((1, 0, 0, 0))
        runner.lose((1, 0, 0, 1))

    def test_before_the_act(self):
        runner = runner_after(SYSTEM, (0, 0), [("request", 3), ("run", 2)])
        runner.deliver((0, 0, 0, 0), 2)
        self.assertEqual(runner.run_to(9), [(3, 0, 0, True), (5, 1, 0, True)])

    def test_acts_that_never_occur(self):
        runner = runner_after(CHAIN, (0, 0, 0), [("request", 0), ("run", 90)])
        for message in [(0, 1, 0, 0), (0, 99, 0, 2), (0, 0, 1, 0), (0, 7, 1, 1)]:
            runner.deliver(message, 3)
            self.assertIn(message + (3,), runner.schedule())
        self.assertEqual(runner.coming(), [])
        runner.lose((0, 7, 1, 1))
        self.assertEqual(runner.schedule(), [(0, 0, 1, 0, 3), (0, 1, 0, 0, 3), (0, 99, 0, 2, 3)])
        self.assertIsNone(runner.step())

    def test_later_acts_of_a_service(self):
        runner = Runner(CHAIN, (0, 0, 0))
        runner.add_request(0)
        for attempt in range(3):
            runner.deliver((0, 0, 0, attempt), 1)
        runner.deliver((0, 1, 1, 1), 2)
        runner.deliver((0, 2, 1, 0), 0)
        self.assertEqual(runner.run_to(5), [(0, 0, 0, True), (1, 1, 0, True), (5, 1, 0, True)])
        self.assertEqual(runner.coming(), [(9, 1, 0), (9, 2, 0)])
        runner.deliver((0, 1, 1, 1), 3)
        with self.assertRaises(TooLate):
            runner.deliver((0, 1, 1, 0), 3)
        self.assertEqual(runner.coming(), [(9, 1, 0), (10, 2, 0)])
        self.assertEqual(runner.run_to(20), [(9, 1, 0, True), (9, 2, 0, True), (10, 2, 0, True)])
        self.assertEqual(runner.act_counts(), [1, 3, 2])

    def test_services_that_are_not_reached(self):
        runner = runner_after(samples.UNREACHED, (0,) * 5, [("request", 0), ("deliver", (0, 0, 1, 0), 9), ("step",)])
        self.assertEqual((runner.schedule(), runner.coming()), ([(0, 0, 1, 0, 9)], []))

    def test_invalid_messages(self):
        runner = runner_after(samples.ORDINARY, (0, 12, 0, 11), [("request", 3), ("request", 9), ("run", 5)])
        before = modelling.tell(runner)
        for message in samples.BAD_MESSAGES:
            with self.assertRaises(InvalidMessage):
                runner.lose(message)
            for delay in [1, 2, None, -1, (), True]:
                with self.assertRaises(InvalidMessage):
                    runner.deliver(message, delay)
        for message, delay in samples.BAD_DELAYS:
            with self.assertRaises(InvalidMessage):
                runner.deliver(message, delay)
        self.assertEqual(modelling.tell(runner), before)

    def test_invalid_messages_come_before_sent_ones(self):
        runner = runner_after(SYSTEM, (0, 0), [("request", 3), ("run", 99)])
        for message, delay in [((0, 0, 0, 0), 6), ((0, 0, 0, 1), 1), ((0, 0, 0, 1), None), ((0, 0, 0, 2), 2)]:
            with self.assertRaises(InvalidMessage):
                runner.deliver(message, delay)
        with self.assertRaises(TooLate):
            runner.deliver((0, 0, 0, 1), 2)

    def test_present_requests(self):
        runner = Runner(SYSTEM, (0, 0))
        for request in range(9):
            with self.assertRaises(InvalidMessage):
                runner.deliver((request, 0, 0, 0), 2)
            with self.assertRaises(InvalidMessage):
                runner.lose((request, 0, 0, 0))
            runner.add_request(10 * request)
            runner.deliver((request, 0, 0, 0), 2)
        runner.undo()
        runner.undo()
        with self.assertRaises(InvalidMessage):
            runner.lose((8, 0, 0, 0))

    def test_edges(self):
        runner = runner_after(samples.WIDEST, (0,) * 8, [("request", 99999)])
        for message in [(0, 0, 0, 0), (0, 99, 6, 3), (0, 0, 6, 0)]:
            for delay in [0, 99]:
                runner.deliver(message, delay)
        runner.deliver((0, 0, 19, 0), 0)
        self.assertEqual(runner.run_to(99999), [(99999, 0, 0, True), (99999, 7, 0, True)])
        self.assertEqual(runner.step(), (100098, 1, 0, True))


class StepsTest(unittest.TestCase):
    def test_step_without_arrivals(self):
        runner = runner_after(SYSTEM, (9, 9), [("request", 3), ("run", 7)])
        before = modelling.tell(runner)
        for _ in range(3):
            self.assertIsNone(runner.step())
        self.assertEqual(modelling.tell(runner), before)
        self.assertEqual(runner.history(), [("request", 3), ("run", 7)])

    def test_order_at_the_same_time(self):
        runner = Runner(AT_ONCE, (0, 0, 0))
        runner.apply_all([("request", 2), ("deliver", (0, 0, 0, 0), 0), ("deliver", (0, 0, 2, 0), 0),
                          ("deliver", (0, 0, 1, 0), 0)])
        self.assertEqual(runner.step(), (2, 0, 0, True))
        self.assertEqual(runner.coming(), [(2, 1, 0), (2, 2, 0)])
        self.assertEqual(runner.step(), (2, 1, 0, True))
        # The message of call 1 comes before that of call 2.
        self.assertEqual(runner.coming(), [(2, 2, 0), (2, 2, 0)])
        self.assertEqual([runner.step(), runner.step(), runner.step()], [(2, 2, 0, True), (2, 2, 0, False), None])

    def test_run_to_executes_what_is_left_of_a_moment(self):
        runner = Runner(AT_ONCE, (0, 0, 0))
        runner.apply_all([("request", 2), ("deliver", (0, 0, 0, 0), 0), ("deliver", (0, 0, 1, 0), 0), ("step",)])
        self.assertEqual(runner.run_to(2), [(2, 1, 0, True), (2, 2, 0, True)])
        self.assertEqual(runner.run_to(2), [])

    def test_run_to_includes_its_time(self):
        operations = [("request", 3), ("deliver", (0, 0, 0, 0), 2), ("deliver", (0, 0, 0, 1), 2)]
        cases = {0: [], 2: [], 3: [3], 4: [3], 5: [3, 5], 14: [3, 5], 15: [3, 5, 15], 99999: [3, 5, 15]}
        for time, times in cases.items():
            runner = runner_after(SYSTEM, (0, 0), operations)
            self.assertEqual([event[0] for event in runner.run_to(time)], times)
            self.assertEqual(runner.current_time(), time)
            self.assertEqual(len(runner.coming()), 1 if not times else 3 - len(times))

    def test_run_to_errors(self):
        runner = runner_after(SYSTEM, (0, 0), [("request", 3), ("run", 7)])
        before = modelling.tell(runner)
        for time in samples.BAD_TIMES + [None]:
            with self.assertRaises(InvalidTime):
                runner.run_to(time)
        for time in [0, 3, 6]:
            with self.assertRaises(TooLate):
                runner.run_to(time)
        self.assertEqual(modelling.tell(runner), before)
        self.assertEqual(runner.run_to(7), [])

    def test_times_beyond_the_last_one(self):
        runner = runner_after(SYSTEM, (0, 0), [("request", 99999), ("deliver", (0, 0, 0, 1), 5), ("step",), ("step",)])
        self.assertEqual(runner.current_time(), 100014)
        with self.assertRaises(TooLate):
            runner.run_to(99999)
        with self.assertRaises(InvalidTime):
            runner.run_to(100014)
        with self.assertRaises(TooLate):
            runner.add_request(99999)

    def test_remembering(self):
        runner = Runner(SYSTEM, (4, 0))
        runner.apply_all([("request", 3), ("deliver", (0, 0, 0, 0), 2), ("step",)])
        self.assertEqual(runner.remembering(), [True, False])
        for time, told in [(5, [True, True]), (6, [True, False]), (7, [True, False]), (8, [False, False])]:
            runner.run_to(time)
            self.assertEqual(runner.remembering(), told, time)

    def test_what_is_ignored(self):
        runner = Runner(SYSTEM, (4, 9))
        runner.apply_all([("request", 0), ("request", 4), ("request", 5), ("deliver", (0, 0, 0, 0), 2),
                          ("deliver", (1, 0, 0, 0), 2), ("deliver", (2, 0, 0, 0), 5), ("deliver", (2, 0, 0, 1), 2)])
        self.assertEqual(runner.run_to(99), [
            (0, 0, 0, True), (2, 1, 0, True), (4, 0, 1, False), (5, 0, 2, True), (10, 1, 2, False), (17, 1, 2, True)])
        self.assertEqual(runner.act_counts(), [2, 2])


class WholeRunsTest(unittest.TestCase):
    def test_operations_beside_a_model(self):
        told = {}
        for seed in range(120):
            chance = random.Random(seed)
            system = chance.choice(samples.SYSTEMS[:5] + samples.made_systems(42, 30, 5, 6, 3, 4))
            windows = chance.choice([least_windows(system), (0,) * system[0], (2,) * system[0], (40,) * system[0]])
            runner, model = Runner(system, windows), modelling.Model(system, windows)
            for _ in range(40):
                operation = modelling.made_operation(chance, model)
                wanted = modelling.execute(model, operation)
                kind = wanted.__name__ if isinstance(wanted, type) else None
                told[operation[0], kind] = told.get((operation[0], kind), 0) + 1
                if isinstance(wanted, type):
                    with self.assertRaises(wanted):
                        modelling.execute(runner, operation)
                else:
                    self.assertEqual(modelling.execute(runner, operation), wanted, operation)
                self.assertEqual(modelling.tell(runner), model.tell(), (seed, operation))
        self.assertEqual(set(told), {
            ("request", None), ("request", "TooLate"), ("request", "InvalidTime"), ("deliver", None),
            ("deliver", "TooLate"), ("deliver", "InvalidMessage"), ("lose", None), ("lose", "TooLate"),
            ("lose", "InvalidMessage"), ("step", None), ("run", None), ("run", "TooLate"), ("run", "InvalidTime")})
        self.assertGreater(min(told.values()), 5)

    def test_events_are_those_of_a_simulation(self):
        for seed in range(60):
            chance = random.Random(seed)
            system = chance.choice(samples.SYSTEMS[:6] + samples.made_systems(43, 20, 6, 8, 3, 9))
            windows = tuple(chance.choice([0, 1, 9, 60]) for _ in range(system[0]))
            runner, model = Runner(system, windows), modelling.Model(system, windows)
            model.add_request(0)
            runner.add_request(0)
            for _ in range(40):
                operation = modelling.made_operation(chance, model)
                if not isinstance(modelling.execute(model, operation), type):
                    modelling.execute(runner, operation)
                events = simulate(system, windows, model.times, runner.schedule())
                self.assertEqual(runner.all_events(), events[:len(runner.all_events())])
                if operation[0] == "run":
                    self.assertEqual(runner.all_events(), [event for event in events if event[0] <= model.time])

    def test_whole_schedules(self):
        chance = random.Random(3)
        for system in samples.SYSTEMS + samples.made_systems(44, 40, 5, 6, 3, 9):
            windows = tuple(chance.choice([0, 5, 50]) for _ in range(system[0]))
            times = samples.made_times(chance, 9, 60)
            schedule = samples.made_schedule(chance, system, len(times), 2, 0.5)
            decided = [("deliver", entry[:4], entry[4]) for entry in schedule]
            chance.shuffle(decided)
            runner = Runner(system, windows)
            runner.apply_all([("request", time) for time in times] + decided)
            self.assertEqual(runner.schedule(), schedule)
            while runner.step():
                pass
            self.assertEqual(runner.all_events(), simulate(system, windows, times, schedule))
            self.assertEqual(runner.act_counts(), count_acts(system, windows, times, schedule))

    def test_many_arrivals_that_are_decided_anew(self):
        system = (3, tuple((0, 1 + k % 2, (k, 25, 60 + k, 99), 0, 99) for k in range(19)) + ((1, 2, (3, 40), 0, 50),))
        messages = [(0, 0, index, attempt) for index, call in enumerate(system[1]) for attempt in range(len(call[2]))]
        for seed in range(15):
            chance = random.Random(seed)
            runner = runner_after(system, (2, 2, 2), [("request", 0)])
            for message in messages:
                runner.deliver(message, chance.randint(0, 50))
            for _ in range(40):
                coming = runner.coming()
                self.assertEqual(coming, sorted(coming))
                event = runner.step()
                self.assertEqual([event[:3]] if event else [], coming[:1])
                for message in chance.sample(messages, 4):
                    try:
                        if chance.random() < 0.7:
                            runner.lose(message)
                        else:
                            runner.deliver(message, chance.randint(0, 50))
                    except TooLate:
                        pass
            while runner.step():
                pass
            self.assertEqual(runner.all_events(), simulate(system, (2, 2, 2), [0], runner.schedule()))

    def test_double_acts(self):
        for system in samples.SYSTEMS:
            windows = tuple(max(0, window - 1) for window in least_windows(system))
            found = double_act(system, windows)
            if found:
                for tried, least_acts, most_acts in [(windows, 2, 99), (least_windows(system), 0, 1)]:
                    runner = runner_after(system, tried, [("request", 0)] + [
                        ("deliver", entry[:4], entry[4]) for entry in found[1]] + [("run", 99999)])
                    self.assertGreaterEqual(runner.act_counts()[found[0]], least_acts)
                    self.assertLessEqual(max(runner.act_counts()), most_acts)


class ArgumentsTest(unittest.TestCase):
    def test_constructor(self):
        for system, part, index in samples.INVALID_SYSTEMS:
            for windows in [None, (0, 0)]:
                with self.assertRaises(InvalidSystem) as caught:
                    Runner(system, windows)
                self.assertEqual((caught.exception.part, caught.exception.index), (part, index))
        for system in [SYSTEM, samples.ORDINARY, samples.WIDEST]:
            for windows, index in samples.invalid_windows(system[0]):
                with self.assertRaises(InvalidWindows) as caught:
                    Runner(system, windows)
                self.assertEqual(caught.exception.index, index)

    def test_told_values_may_be_modified(self):
        runner = Runner(SYSTEM, (0, 8))
        runner.apply_all([("request", 3), ("request", 70), ("deliver", (0, 0, 0, 1), 4), ("run", 9)])
        before = copy.deepcopy(modelling.tell(runner))
        for ask in [runner.all_events, runner.act_counts, runner.remembering, runner.coming, runner.schedule,
                    runner.history, runner.checkpoints]:
            first, second = ask(), ask()
            self.assertIs(type(first), list)
            self.assertEqual(first, second)
            first.append("spoiled")
            first.reverse()
            self.assertEqual(ask(), second)
        self.assertEqual(modelling.tell(runner), before)
        self.assertEqual(runner.step(), (17, 1, 0, True))

    def test_asking_changes_nothing(self):
        runner = runner_after(SYSTEM, (0, 8), [("request", 3), ("deliver", (0, 0, 0, 1), 4), ("run", 9)])
        runner.undo()
        modelling.tell(runner)
        runner.history()
        runner.checkpoints()
        runner.is_busy()
        self.assertIs(runner.redo(), True)

    def test_kinds_of_values(self):
        runner = Runner(SYSTEM, (0, 8))
        self.assertIs(type(runner.add_request(3)), int)
        self.assertIs(type(runner.step()), tuple)
        self.assertEqual([type(told) for told in runner.all_events()[0]], [int, int, int, bool])
        self.assertEqual({type(told) for told in runner.remembering()}, {bool})
        self.assertIs(runner.is_busy(), False)


if __name__ == "__main__":
    unittest.main()
