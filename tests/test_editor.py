"""Tests of onceonly.editor: points 14 and 15 of the document."""

import copy
import random
import unittest

import samples
import timelines
from onceonly.editor import Editor
from onceonly.errors import (
    InvalidCall, InvalidSystem, ServiceInUse, TooManyCalls, TooManyServices, UnknownCall, UnknownService,
)
from onceonly.windows import least_windows

SYSTEM = (2, ((0, 1, (0, 10), 2, 5),))
THREE = (3, ((0, 1, (0, 5), 1, 2), (0, 2, (1,), 0, 9), (1, 2, (2, 4, 6), 3, 3)))
BAD_NUMBERS = [None, True, False, -1, 20, 99, "0", "", (), (0,), [0], [], samples.HUGE, -samples.HUGE]


class ExamplesTest(unittest.TestCase):
    def test_add_and_remove_calls(self):
        editor = Editor(SYSTEM)
        editor.add_call((0, 1, (5,), 1, 1))
        editor.remove_call(0)
        self.assertEqual(editor.current_system(), (2, ((0, 1, (5,), 1, 1),)))

    def test_invalid_call(self):
        with self.assertRaises(InvalidCall):
            Editor(SYSTEM).add_call((1, 1, (5,), 1, 1))

    def test_window_history(self):
        editor = Editor(SYSTEM)
        told = [editor.set_offsets(0, (0, 20)), editor.set_delays(0, 2, 6), editor.window_history()]
        self.assertEqual(told, [(0, 10), (2, 5), [(0, 13), (0, 23), (0, 24)]])

    def test_remove_service(self):
        editor = Editor((3, ((0, 2, (0,), 1, 1),)))
        editor.remove_service(1)
        self.assertEqual(editor.current_system(), (2, ((0, 1, (0,), 1, 1),)))

    def test_service_in_use(self):
        with self.assertRaises(ServiceInUse):
            Editor(SYSTEM).remove_service(1)


class EditorTimelineTest(timelines.TimelineTests, unittest.TestCase):
    BASE = Editor
    METHOD = "add_call"
    ARGUMENTS = {
        "add_call": 1, "remove_call": 1, "set_offsets": 2, "set_delays": 3, "add_service": 0, "remove_service": 1}
    OPERATIONS = [
        ("add_call", (0, 1, (5,), 1, 7)), ("set_offsets", 0, (0, 20)), ("add_service",),
        ("add_call", (1, 2, (0, 3), 0, 4)), ("remove_call", 1), ("add_service",), ("set_delays", 1, 2, 9),
        ("add_call", (0, 3, (1, 2), 1, 1)), ("remove_call", 1), ("remove_service", 2), ("set_offsets", 1, (7, 8, 9)),
    ]
    FAILING = [
        (("add_call", (0, 0, (5,), 1, 7)), InvalidCall), (("add_call", None), InvalidCall),
        (("add_call", (0, 1, (5,), 7, 1)), InvalidCall), (("remove_call", 20), UnknownCall),
        (("remove_call", -1), UnknownCall), (("set_offsets", 9, (0,)), UnknownCall),
        (("set_offsets", 0, ()), InvalidCall), (("set_offsets", 0, [1]), InvalidCall),
        (("set_delays", None, 1, 2), UnknownCall), (("set_delays", 0, 2, 1), InvalidCall),
        (("remove_service", 0), UnknownService), (("remove_service", 9), UnknownService),
        (("remove_service", 1), ServiceInUse),
    ]

    def make(self):
        return Editor(SYSTEM)

    def tell(self, subject):
        return (subject.current_system(), subject.window_history())

    def execute(self, subject, operation):
        return getattr(subject, operation[0])(*operation[1:])


class CallsTest(unittest.TestCase):
    def test_add_call(self):
        editor = Editor((3, ()))
        calls = []
        for index in range(20):
            call = (index % 2, 2, (index,), 0, index)
            self.assertEqual(editor.add_call(call), index)
            calls.append(call)
            self.assertEqual(editor.current_system(), (3, tuple(calls)))

    def test_twenty_calls(self):
        for many in [18, 19, 20]:
            editor = Editor((3, (samples.GOOD,) * many))
            for index in range(many, 20):
                self.assertEqual(editor.add_call(samples.GOOD), index)
            with self.assertRaises(TooManyCalls):
                editor.add_call(samples.GOOD)
            # The form of the call comes first.
            for call in samples.BAD_CALLS:
                with self.assertRaises(InvalidCall):
                    editor.add_call(call)
            self.assertEqual(editor.current_system(), (3, (samples.GOOD,) * 20))
            self.assertEqual(len(editor.history()), 20 - many)
            editor.remove_call(7)
            self.assertEqual(editor.add_call((0, 2, (9,), 9, 9)), 19)

    def test_invalid_calls(self):
        for many in [0, 1, 19]:
            editor = Editor((3, (samples.GOOD,) * many))
            for call in samples.BAD_CALLS:
                with self.assertRaises(InvalidCall):
                    editor.add_call(call)
            self.assertEqual((editor.current_system(), editor.history()), ((3, (samples.GOOD,) * many), []))

    def test_calls_of_so_many_services(self):
        for count in range(1, 9):
            for caller in range(8):
                for target in range(9):
                    editor = Editor((count, ()))
                    call = (caller, target, (0,), 1, 1)
                    if caller < target < count:
                        self.assertEqual(editor.add_call(call), 0)
                    else:
                        with self.assertRaises(InvalidCall):
                            editor.add_call(call)

    def test_remove_call(self):
        for index in range(3):
            editor = Editor(THREE)
            self.assertEqual(editor.remove_call(index), THREE[1][index])
            self.assertEqual(editor.current_system(), (3, THREE[1][:index] + THREE[1][index + 1:]))
            self.assertEqual(editor.remove_call(1), (THREE[1][:index] + THREE[1][index + 1:])[1])
            with self.assertRaises(UnknownCall):
                editor.remove_call(1)
            editor.remove_call(0)
            self.assertEqual(editor.current_system(), (3, ()))
            with self.assertRaises(UnknownCall):
                editor.remove_call(0)

    def test_set_offsets(self):
        for index in range(3):
            editor = Editor(THREE)
            for offsets in [(0,), (99,), (0, 1, 98, 99), (7, 8)]:
                former = editor.current_system()[1][index][2]
                self.assertEqual(editor.set_offsets(index, offsets), former)
                calls = [list(call) for call in THREE[1]]
                calls[index][2] = offsets
                self.assertEqual(editor.current_system(), (3, tuple(map(tuple, calls))))

    def test_set_delays(self):
        for index in range(3):
            editor = Editor(THREE)
            for delays in [(0, 0), (99, 99), (0, 99), (4, 5)]:
                former = editor.current_system()[1][index][3:]
                told = editor.set_delays(index, *delays)
                self.assertEqual((told, type(told)), (former, tuple))
                calls = [call[:3] + (delays if at == index else call[3:]) for at, call in enumerate(THREE[1])]
                self.assertEqual(editor.current_system(), (3, tuple(calls)))

    def test_invalid_changes(self):
        editor = Editor(THREE)
        for index in range(3):
            for offsets in samples.BAD_OFFSETS:
                with self.assertRaises(InvalidCall):
                    editor.set_offsets(index, offsets)
            for least, most in samples.BAD_LIMITS:
                with self.assertRaises(InvalidCall):
                    editor.set_delays(index, least, most)
        self.assertEqual((editor.current_system(), editor.history()), (THREE, []))

    def test_unknown_calls_come_first(self):
        for system in [THREE, (3, ())]:
            editor = Editor(system)
            for index in BAD_NUMBERS + [len(system[1])]:
                for ask in [editor.remove_call, lambda at: editor.set_offsets(at, (0,)),
                            lambda at: editor.set_offsets(at, None), lambda at: editor.set_delays(at, 1, 2),
                            lambda at: editor.set_delays(at, None, None)]:
                    with self.assertRaises(UnknownCall):
                        ask(index)
            self.assertEqual((editor.current_system(), editor.history()), (system, []))


class ServicesTest(unittest.TestCase):
    def test_add_service(self):
        editor = Editor((1, ()))
        for count in range(1, 8):
            self.assertEqual(editor.add_service(), count)
            self.assertEqual(editor.current_system(), (count + 1, ()))
        with self.assertRaises(TooManyServices):
            editor.add_service()
        self.assertEqual((editor.current_system(), len(editor.history())), ((8, ()), 7))
        self.assertIsNone(editor.remove_service(3))
        self.assertEqual(editor.add_service(), 7)

    def test_added_services_can_be_called(self):
        editor = Editor(SYSTEM)
        with self.assertRaises(InvalidCall):
            editor.add_call((1, 2, (0,), 1, 1))
        self.assertEqual(editor.add_service(), 2)
        self.assertEqual(editor.add_call((1, 2, (0,), 1, 1)), 1)

    def test_remove_service(self):
        system = (8, ((0, 2, (0,), 1, 1), (2, 4, (1, 2), 3, 4), (4, 7, (5,), 0, 99), (0, 7, (6,), 9, 9)))
        cases = {1: [(0, 1), (1, 3), (3, 6), (0, 6)], 3: [(0, 2), (2, 3), (3, 6), (0, 6)],
                 5: [(0, 2), (2, 4), (4, 6), (0, 6)], 6: [(0, 2), (2, 4), (4, 6), (0, 6)]}
        for service, ends in cases.items():
            editor = Editor(system)
            self.assertIsNone(editor.remove_service(service))
            wanted = tuple(pair + call[2:] for pair, call in zip(ends, system[1]))
            self.assertEqual(editor.current_system(), (7, wanted))
        for service in [2, 4, 7]:
            editor = Editor(system)
            with self.assertRaises(ServiceInUse):
                editor.remove_service(service)
            self.assertEqual((editor.current_system(), editor.history()), (system, []))

    def test_services_in_use_by_services_that_are_not_reached(self):
        editor = Editor((4, ((1, 3, (0,), 1, 1),)))
        for service in [1, 3]:
            with self.assertRaises(ServiceInUse):
                editor.remove_service(service)
        editor.remove_call(0)
        editor.remove_service(3)
        editor.remove_service(1)
        self.assertEqual(editor.current_system(), (2, ()))

    def test_unknown_services(self):
        for count in range(1, 9):
            editor = Editor((count, ()))
            for service in BAD_NUMBERS + [0, count, count + 1]:
                with self.assertRaises(UnknownService):
                    editor.remove_service(service)
            self.assertEqual((editor.current_system(), editor.history()), ((count, ()), []))

    def test_service_0_is_not_removed_though_it_is_in_use(self):
        with self.assertRaises(UnknownService):
            Editor(SYSTEM).remove_service(0)


class WindowHistoryTest(unittest.TestCase):
    def test_operations(self):
        editor = Editor(SYSTEM)
        wanted = [(0, 13)]
        self.assertEqual(editor.window_history(), wanted)
        for operation, windows in [
                (("add_service",), (0, 13, 0)), (("add_call", (1, 2, (0, 3), 1, 1)), (0, 13, 3)),
                (("set_offsets", 0, (4,)), (0, 0, 3)), (("set_delays", 1, 0, 9), (0, 0, 12)),
                (("remove_call", 0), (0, 0, 0)), (("remove_call", 0), (0, 0, 0)), (("remove_service", 1), (0, 0))]:
            editor.apply_all([operation])
            wanted.append(windows)
            self.assertEqual(editor.window_history(), wanted)
        for _ in range(3):
            editor.undo()
        self.assertEqual(editor.window_history(), wanted[:-3])
        editor.redo()
        self.assertEqual(editor.window_history(), wanted[:-2])
        editor.save("kept")
        editor.redo()
        editor.redo()
        self.assertEqual(editor.window_history(), wanted)
        editor.restore("kept")
        self.assertEqual(editor.window_history(), wanted[:-2])
        editor.add_service()
        self.assertEqual(editor.window_history(), wanted[:-2] + [(0, 0, 0, 0)])

    def test_kinds_of_values(self):
        editor = Editor(SYSTEM)
        self.assertEqual([type(told) for told in editor.window_history()], [tuple])
        self.assertIs(type(editor.current_system()), tuple)


class Model:
    """An editor in the words of point 15; operations return a result, or the class of the error."""

    def __init__(self, count, calls):
        self.count = count
        self.calls = [list(call) for call in calls]

    def system(self):
        return (self.count, tuple(map(tuple, self.calls)))

    def add_call(self, call):
        if not call[0] < call[1] < self.count or call[3] > call[4]:
            return InvalidCall
        if len(self.calls) == 20:
            return TooManyCalls
        self.calls.append(list(call))
        return len(self.calls) - 1

    def remove_call(self, index):
        return tuple(self.calls.pop(index)) if 0 <= index < len(self.calls) else UnknownCall

    def set_offsets(self, index, offsets):
        if not 0 <= index < len(self.calls):
            return UnknownCall
        if not offsets or list(offsets) != sorted(set(offsets)):
            return InvalidCall
        former, self.calls[index][2] = self.calls[index][2], offsets
        return former

    def set_delays(self, index, least, most):
        if not 0 <= index < len(self.calls):
            return UnknownCall
        if least > most:
            return InvalidCall
        former, self.calls[index][3:] = tuple(self.calls[index][3:]), (least, most)
        return former

    def add_service(self):
        if self.count == 8:
            return TooManyServices
        self.count += 1
        return self.count - 1

    def remove_service(self, service):
        if not 0 < service < self.count:
            return UnknownService
        if any(service in call[:2] for call in self.calls):
            return ServiceInUse
        for call in self.calls:
            call[:2] = [number - (number > service) for number in call[:2]]
        self.count -= 1
        return None


def made_operation(chance, model):
    """Return an operation that chance makes, which can fail."""
    index = chance.randrange(len(model.calls) + 1)
    offsets = tuple(chance.choices(range(30), k=chance.choice([0, 1, 1, 2, 2])))
    return chance.choice([
        ("add_call", (chance.randrange(model.count), chance.randrange(model.count + 1), (chance.randrange(9),),
                      chance.randrange(4), chance.randrange(9))),
        ("add_call", (0, 1, (1, 3), 0, 4)), ("remove_call", index), ("set_offsets", index, offsets),
        ("set_delays", index, chance.randrange(5), chance.randrange(9)), ("add_service",),
        ("remove_service", chance.randrange(model.count + 1))])


class WholeEditsTest(unittest.TestCase):
    def test_operations_beside_a_model(self):
        told = {}
        for seed in range(60):
            chance = random.Random(seed)
            start = chance.choice(samples.SYSTEMS + samples.made_systems(51, 20, 8, 18, 3, 9))
            editor, model = Editor(start), Model(*start)
            history, windows = [], [least_windows(start)]
            for _ in range(40):
                operation = made_operation(chance, model)
                wanted = getattr(model, operation[0])(*operation[1:])
                kind = wanted.__name__ if isinstance(wanted, type) else None
                told[operation[0], kind] = told.get((operation[0], kind), 0) + 1
                if isinstance(wanted, type):
                    with self.assertRaises(wanted):
                        getattr(editor, operation[0])(*operation[1:])
                else:
                    self.assertEqual(getattr(editor, operation[0])(*operation[1:]), wanted)
                    history.append(operation)
                    windows.append(least_windows(model.system()))
                self.assertEqual(editor.current_system(), model.system())
            self.assertEqual((editor.history(), editor.window_history()), (history, windows))
            again = Editor(start)
            again.apply_all(history)
            self.assertEqual(again.current_system(), model.system())
        self.assertEqual(len(told), 16)
        self.assertGreater(min(told.values()), 3)


class ArgumentsTest(unittest.TestCase):
    def test_constructor(self):
        for system, part, index in samples.INVALID_SYSTEMS:
            with self.assertRaises(InvalidSystem) as caught:
                Editor(system)
            self.assertEqual((caught.exception.part, caught.exception.index), (part, index))

    def test_system_is_kept_as_it_was(self):
        system = copy.deepcopy(THREE)
        editor = Editor(system)
        editor.set_offsets(0, (9,))
        editor.remove_call(1)
        editor.add_service()
        self.assertEqual(system, THREE)

    def test_told_values_may_be_modified(self):
        editor = Editor(SYSTEM)
        editor.apply_all([("add_service",), ("set_delays", 0, 1, 1)])
        for ask in [editor.window_history, editor.history, editor.checkpoints]:
            first, second = ask(), ask()
            first.append("spoiled")
            first.reverse()
            self.assertEqual(ask(), second)
        self.assertEqual(editor.current_system(), (3, ((0, 1, (0, 10), 1, 1),)))
        self.assertEqual(editor.current_system(), editor.current_system())


if __name__ == "__main__":
    unittest.main()
