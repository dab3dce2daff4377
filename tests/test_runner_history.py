"""Tests of onceonly.runner: point 14 of the document for runners."""

import random
import unittest

import modelling
import samples
import timelines
from onceonly.errors import InvalidMessage, InvalidOperation, InvalidTime, TooLate
from onceonly.runner import Runner
from onceonly.simulator import simulate

SYSTEM = (2, ((0, 1, (0, 10), 2, 5),))


class ExamplesTest(unittest.TestCase):
    def test_apply_all(self):
        runner = Runner(SYSTEM, (0, 8))
        self.assertEqual(runner.apply_all([("request", 3), ("run", 9)]), [0, [(3, 0, 0, True)]])

    def test_undo_and_redo(self):
        runner = Runner(SYSTEM, (0, 8))
        runner.add_request(3)
        told = [runner.undo(), runner.undo(), runner.redo(), runner.history()]
        self.assertEqual(told, [True, False, True, [("request", 3)]])

    def test_invalid_operation(self):
        runner = Runner(SYSTEM, (0, 8))
        with self.assertRaises(InvalidOperation) as caught:
            runner.apply_all([("request", 3), ("step", 1)])
        self.assertEqual(caught.exception.index, 1)


class RunnerTimelineTest(timelines.TimelineTests, unittest.TestCase):
    BASE = Runner
    METHOD = "step"
    ARGUMENTS = {"request": 1, "deliver": 2, "lose": 1, "step": 0, "run": 1}
    OPERATIONS = [
        ("request", 3), ("deliver", (0, 0, 0, 1), 2), ("request", 5), ("step",), ("deliver", (0, 0, 0, 1), 3),
        ("deliver", (1, 0, 1, 0), 4), ("run", 6), ("lose", (0, 0, 0, 1)), ("step",), ("run", 20), ("request", 30),
    ]
    FAILING = [
        (("request", -1), InvalidTime), (("request", None), InvalidTime), (("request", 100000), InvalidTime),
        (("deliver", (0, 0, 4, 0), 1), InvalidMessage), (("deliver", (0, 0, 0, 0), 4), InvalidMessage),
        (("lose", (9, 0, 0, 0)), InvalidMessage), (("lose", None), InvalidMessage), (("run", True), InvalidTime),
        (("run", [1]), InvalidTime), (("run", 100000), InvalidTime),
    ]

    def make(self):
        return Runner(samples.ORDINARY, (0, 12, 0, 11))

    def tell(self, subject):
        return modelling.tell(subject)

    def execute(self, subject, operation):
        return modelling.execute(subject, operation)


class RunnerTest(unittest.TestCase):
    def test_step_without_arrivals(self):
        runner = Runner(SYSTEM, (0, 8))
        runner.apply_all([("request", 3), ("run", 9)])
        runner.undo()
        runner.undo()
        self.assertIsNone(runner.step())
        self.assertEqual((runner.history(), runner.current_time()), ([], -1))
        self.assertEqual(runner.apply_all([("step",), ("step",)]), [None, None])
        self.assertEqual([runner.redo(), runner.redo(), runner.redo()], [True, True, False])
        self.assertIsNone(runner.step())
        self.assertEqual(runner.history(), [("request", 3), ("run", 9)])

    def test_run_without_arrivals(self):
        runner = Runner(SYSTEM, (0, 8))
        runner.apply_all([("request", 3), ("run", 9)])
        runner.undo()
        self.assertEqual(runner.run_to(2), [])
        self.assertEqual(runner.redo(), False)
        self.assertEqual(runner.history(), [("request", 3), ("run", 2)])
        self.assertEqual(runner.run_to(2), [])
        self.assertEqual(runner.history(), [("request", 3), ("run", 2), ("run", 2)])
        self.assertEqual([runner.undo(), runner.current_time(), runner.undo(), runner.current_time()],
                         [True, 2, True, -1])

    def test_decisions_that_change_nothing_are_recorded(self):
        runner = Runner(SYSTEM, (0, 8))
        runner.add_request(3)
        runner.lose((0, 0, 0, 1))
        runner.deliver((0, 0, 0, 1), 2)
        runner.deliver((0, 0, 0, 1), 2)
        self.assertEqual(runner.history(), [
            ("request", 3), ("lose", (0, 0, 0, 1)), ("deliver", (0, 0, 0, 1), 2), ("deliver", (0, 0, 0, 1), 2)])

    def test_errors_that_depend_on_what_came_before(self):
        runner = Runner(SYSTEM, (0, 8))
        runner.apply_all([("request", 3), ("run", 9), ("request", 50)])
        runner.undo()
        for operations in [[("request", 20), ("request", 20)], [("request", 20), ("run", 8)],
                           [("run", 99999), ("request", 99999)], [("lose", (0, 0, 0, 1)), ("lose", (0, 0, 0, 0))],
                           [("run", 13), ("deliver", (0, 0, 0, 1), 2)], [("step",), ("run", 5)]]:
            with self.assertRaises(TooLate):
                runner.apply_all(operations)
            self.assertEqual(runner.history(), [("request", 3), ("run", 9)])
            self.assertEqual(runner.schedule(), [])
        with self.assertRaises(InvalidTime):
            runner.apply_all([("request", time) for time in range(20, 29)])
        self.assertEqual(runner.coming(), [])
        self.assertIs(runner.redo(), True)
        self.assertEqual(runner.coming(), [(50, 0, 1)])

    def test_returned_results_may_be_modified(self):
        runner = Runner(SYSTEM, (0, 8))
        results = runner.apply_all([("request", 3), ("run", 9)])
        results[1].clear()
        results.clear()
        self.assertEqual(runner.all_events(), [(3, 0, 0, True)])
        runner.run_to(9).append(None)
        self.assertEqual(runner.all_events(), [(3, 0, 0, True)])

    def test_walks(self):
        """Operations, undo and redo as chance wants, beside models."""
        for seed in range(60):
            chance = random.Random(seed)
            system = chance.choice(samples.made_systems(41, 20, 4, 5, 3, 5))
            windows = tuple(chance.choice([0, 0, 2, 5, 30]) for _ in range(system[0]))
            runner = Runner(system, windows)
            done, undone = [], []
            for _ in range(40):
                model = modelling.Model(system, windows)
                for operation in done:
                    modelling.execute(model, operation)
                kind = chance.choice(["new", "new", "new", "undo", "redo"])
                if kind == "undo" and done:
                    self.assertIs(runner.undo(), True)
                    undone.append(done.pop())
                elif kind == "redo":
                    self.assertIs(runner.redo(), bool(undone))
                    if undone:
                        done.append(undone.pop())
                else:
                    operation = modelling.made_operation(chance, model)
                    wanted = modelling.execute(model, operation)
                    if isinstance(wanted, type):
                        with self.assertRaises(wanted):
                            modelling.execute(runner, operation)
                    else:
                        self.assertEqual(modelling.execute(runner, operation), wanted)
                    if not isinstance(wanted, type) and (operation[0] != "step" or wanted is not None):
                        done.append(operation)
                        undone = []
                self.assertEqual(runner.history(), done)

    def test_history_leads_to_the_same_state(self):
        for seed in range(40):
            chance = random.Random(seed)
            system = chance.choice(samples.SYSTEMS[:5])
            windows = tuple(chance.choice([0, 3, 20]) for _ in range(system[0]))
            runner, model = Runner(system, windows), modelling.Model(system, windows)
            for _ in range(30):
                operation = modelling.made_operation(chance, model)
                if not isinstance(modelling.execute(model, operation), type):
                    modelling.execute(runner, operation)
            again = Runner(system, windows)
            again.apply_all(runner.history())
            self.assertEqual(modelling.tell(again), modelling.tell(runner))
            self.assertEqual(modelling.tell(again), model.tell())
            while runner.step():
                pass
            self.assertEqual(runner.all_events(), simulate(system, windows, model.times, runner.schedule())
                             if model.times else [])


if __name__ == "__main__":
    unittest.main()
