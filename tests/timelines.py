"""Tests of point 14 of the document, which runners and editors share."""

import copy
import random

from onceonly.errors import InvalidName, InvalidOperation, UnknownCheckpoint

NAMES = ["a", "z", "abcdefgh", "zzzzzzzz", "now", "step"]
BAD_NAMES = [
    None, True, 0, 5, "", "A", "aB", "abcdefghi", "a b", " a", "a ", "a1", "1", "a_", "a.", "a\n", "\n", ("a",), ["a"], [],
    (), [["a"]], "\u00e4", "\u00df", "\u0430", "\uff41", "a" * 100]


class TimelineTests:
    """A class that uses these tests gives them

    - `make()`, which returns a new object, and `tell(subject)`, all that it tells of its state;
    - `execute(subject, operation)`, which calls a method;
    - `OPERATIONS`, which can be executed one after the other, and each of which changes what is told;
    - `FAILING`, tuples of an operation and the class of the error that it raises at any time;
    - `ARGUMENTS`, a dict from all words to their numbers of arguments;
    - `BASE`, the class, and `METHOD`, the name of a method that an operation of OPERATIONS calls.
    """

    def everything(self, subject):
        """Return all that an object tells, and what it tells while everything that can be redone is redone."""
        twin = copy.deepcopy(subject)
        states = [(self.tell(twin), twin.history(), twin.checkpoints(), twin.is_busy())]
        while twin.redo():
            states.append((self.tell(twin), twin.history(), twin.checkpoints(), twin.is_busy()))
        return states

    def made(self, many):
        """Return an object after so many operations."""
        subject = self.make()
        for operation in self.OPERATIONS[:many]:
            self.execute(subject, operation)
        return subject

    def test_operations_change_what_is_told(self):
        told = [self.tell(self.made(many)) for many in range(len(self.OPERATIONS) + 1)]
        for before, after in zip(told, told[1:]):
            self.assertNotEqual(before, after)
        self.assertGreaterEqual({operation[0] for operation in self.OPERATIONS}, set(self.ARGUMENTS))

    def test_history(self):
        subject = self.make()
        for many, operation in enumerate(self.OPERATIONS):
            self.assertEqual(subject.history(), self.OPERATIONS[:many])
            self.execute(subject, operation)
        self.assertEqual(subject.history(), self.OPERATIONS)
        self.assertIs(type(subject.history()), list)

    def test_undo_and_redo_each_operation(self):
        for many in range(len(self.OPERATIONS) + 1):
            subject = self.made(many)
            told = [self.tell(self.made(fewer)) for fewer in range(many + 1)]
            for fewer in reversed(range(many)):
                self.assertIs(subject.undo(), True)
                self.assertEqual((self.tell(subject), subject.history()), (told[fewer], self.OPERATIONS[:fewer]))
            self.assertIs(subject.undo(), False)
            for more in range(1, many + 1):
                self.assertIs(subject.redo(), True)
                self.assertEqual((self.tell(subject), subject.history()), (told[more], self.OPERATIONS[:more]))
            self.assertIs(subject.redo(), False)

    def test_nothing_to_undo_or_to_redo(self):
        subject = self.make()
        before = self.everything(subject)
        for _ in range(3):
            self.assertIs(subject.undo(), False)
            self.assertIs(subject.redo(), False)
        self.assertEqual(self.everything(subject), before)

    def test_new_operation_after_undone_ones(self):
        for undone in range(1, len(self.OPERATIONS)):
            subject = self.made(undone)
            subject.undo()
            self.execute(subject, self.OPERATIONS[undone - 1])
            self.assertIs(subject.redo(), False)
            self.assertEqual(self.everything(subject), self.everything(self.made(undone)))
            self.assertIs(subject.undo(), True)
            self.assertEqual(subject.history(), self.OPERATIONS[:undone - 1])

    def test_operation_that_fails(self):
        for undone in range(len(self.OPERATIONS) + 1):
            subject = self.made(len(self.OPERATIONS))
            for _ in range(undone):
                subject.undo()
            before = self.everything(subject)
            self.assertEqual(len(before), undone + 1)
            for operation, error in self.FAILING:
                with self.assertRaises(error):
                    self.execute(subject, operation)
                self.assertEqual(self.everything(subject), before)

    def test_save_and_restore(self):
        for many in range(len(self.OPERATIONS) + 1):
            subject = self.made(many)
            self.assertIsNone(subject.save("kept"))
            wanted = self.everything(subject)
            self.assertEqual(subject.checkpoints(), ["kept"])
            for operation in self.OPERATIONS[many:]:
                self.execute(subject, operation)
            for _ in range(2):
                self.assertIsNone(subject.restore("kept"))
                self.assertEqual(self.everything(subject), wanted)
                # What is done afterwards does not change what was saved.
                if many:
                    subject.undo()
                else:
                    self.execute(subject, self.OPERATIONS[0])
            subject.restore("kept")
            for fewer in reversed(range(many)):
                self.assertIs(subject.undo(), True)
                self.assertEqual(self.tell(subject), self.tell(self.made(fewer)))

    def test_restored_operations_can_be_redone(self):
        subject = self.made(4)
        subject.undo()
        subject.undo()
        subject.save("two")
        wanted = self.everything(subject)
        self.assertEqual(len(wanted), 3)
        self.execute(subject, self.OPERATIONS[2])
        self.assertIs(subject.redo(), False)
        subject.restore("two")
        self.assertEqual(self.everything(subject), wanted)
        self.assertEqual([subject.redo(), subject.redo(), subject.redo()], [True, True, False])
        self.assertEqual(subject.history(), self.OPERATIONS[:4])

    def test_save_and_restore_are_no_operations(self):
        subject = self.made(3)
        subject.undo()
        before = [state[:2] for state in self.everything(subject)]
        subject.save("a")
        subject.restore("a")
        self.assertEqual([state[:2] for state in self.everything(subject)], before)
        self.assertEqual(len(before), 2)

    def test_checkpoints(self):
        subject = self.make()
        self.assertEqual(subject.checkpoints(), [])
        for many, name in enumerate(NAMES):
            subject.save(name)
            self.assertEqual(subject.checkpoints(), sorted(NAMES[:many + 1]))
        self.execute(subject, self.OPERATIONS[0])
        subject.undo()
        subject.restore("a")
        # What has been saved later is still there.
        self.assertEqual(subject.checkpoints(), sorted(NAMES))

    def test_names_are_replaced(self):
        subject = self.make()
        for many, operation in enumerate(self.OPERATIONS):
            subject.save("last")
            subject.save("first" if many == 0 else "other")
            self.execute(subject, operation)
        subject.restore("last")
        self.assertEqual(subject.history(), self.OPERATIONS[:-1])
        self.assertEqual(self.tell(subject), self.tell(self.made(len(self.OPERATIONS) - 1)))
        subject.restore("first")
        self.assertEqual(subject.history(), [])
        self.assertEqual(self.tell(subject), self.tell(self.make()))
        self.assertEqual(subject.checkpoints(), ["first", "last", "other"])

    def test_invalid_names(self):
        subject = self.made(2)
        subject.save("good")
        before = self.everything(subject)
        for name in BAD_NAMES:
            with self.assertRaises(InvalidName):
                subject.save(name)
            with self.assertRaises(UnknownCheckpoint):
                subject.restore(name)
            self.assertEqual(self.everything(subject), before)

    def test_unknown_checkpoints(self):
        subject = self.made(2)
        for name in NAMES:
            with self.assertRaises(UnknownCheckpoint):
                subject.restore(name)
        subject.save("good")
        for name in ["goo", "goods", "Good", "bad"]:
            before = self.everything(subject)
            with self.assertRaises(UnknownCheckpoint):
                subject.restore(name)
            self.assertEqual(self.everything(subject), before)

    def test_apply_all(self):
        for start in range(len(self.OPERATIONS) + 1):
            one_by_one = self.made(start)
            results = [self.execute(one_by_one, operation) for operation in self.OPERATIONS[start:]]
            subject = self.made(start)
            given = list(self.OPERATIONS[start:])
            self.assertEqual(subject.apply_all(given), results)
            self.assertEqual(given, self.OPERATIONS[start:])
            given.clear()
            self.assertEqual(self.everything(subject), self.everything(one_by_one))
            # Each of them is an operation of its own.
            self.assertIs(subject.undo(), len(self.OPERATIONS) > 0)
            self.assertEqual(subject.history(), self.OPERATIONS[:-1])

    def test_apply_all_and_what_can_be_redone(self):
        subject = self.made(3)
        subject.undo()
        before = self.everything(subject)
        self.assertEqual(subject.apply_all([]), [])
        self.assertEqual(self.everything(subject), before)
        subject.apply_all([self.OPERATIONS[2]])
        self.assertIs(subject.redo(), False)

    def malformed(self):
        """Return a list of what is no operation."""
        items = [None, True, 0, "", [], (), {}, "step", "add_service", (None,), (True,), (0,), ("",), ((),), ([],), ({},),
                 (["step"],), ("undo",), ("redo",), ("history",), ("save", "a"), ("restore", "a"), ("apply_all", []),
                 ("current_system",), ("schedule",), ("add_request", 3), ("run_to", 9), ("print", 1)]
        for word, number in self.ARGUMENTS.items():
            items += [(word,) + (0,) * wrong for wrong in range(number + 3) if wrong != number]
            items += [(word.upper(),) + (0,) * number, (" " + word,) + (0,) * number, [word] + [0] * number, word]
            items += [((word,),) + (0,) * number, ((word,) + (0,) * number,), [(word,) + (0,) * number]]
        return items

    def test_malformed_operations(self):
        subject = self.made(2)
        subject.undo()
        subject.save("kept")
        before = self.everything(subject)
        for item in self.malformed():
            for place in range(4):
                for operations in [self.OPERATIONS[1:1 + place] + [item], self.OPERATIONS[1:1 + place] + [item, None],
                                   self.OPERATIONS[1:1 + place] + [item] + self.OPERATIONS[1:]]:
                    with self.assertRaises(InvalidOperation) as caught:
                        subject.apply_all(operations)
                    self.assertEqual(caught.exception.index, place)
            # The form comes before what the operations do.
            with self.assertRaises(InvalidOperation) as caught:
                subject.apply_all([self.FAILING[0][0], item])
            self.assertEqual(caught.exception.index, 1)
        self.assertEqual(self.everything(subject), before)

    def test_no_list_of_operations(self):
        subject = self.made(2)
        before = self.everything(subject)
        for operations in [None, True, 0, "", "step", (), tuple(self.OPERATIONS), self.OPERATIONS[0], {}]:
            with self.assertRaises(InvalidOperation) as caught:
                subject.apply_all(operations)
            self.assertEqual(caught.exception.index, 0)
        self.assertEqual(self.everything(subject), before)

    def test_apply_all_with_an_error(self):
        for undone in range(len(self.OPERATIONS) + 1):
            subject = self.made(len(self.OPERATIONS))
            subject.save("kept")
            for _ in range(undone):
                subject.undo()
            before = self.everything(subject)
            rest = self.OPERATIONS[len(self.OPERATIONS) - undone:]
            for operation, error in self.FAILING:
                for place in range(len(rest) + 1):
                    with self.assertRaises(error) as caught:
                        subject.apply_all(rest[:place] + [operation] + rest[place:])
                    self.assertIs(type(caught.exception), error)
                    self.assertEqual(self.everything(subject), before)
            # Afterwards, everything goes on as if nothing had happened.
            subject.apply_all(rest)
            self.assertEqual(subject.history(), self.OPERATIONS)

    def test_busy(self):
        seen = []
        base, method = self.BASE, self.METHOD

        class Watching(base):
            pass

        def watch(subject, *arguments):
            seen.append(subject.is_busy())
            return getattr(base, method)(subject, *arguments)

        setattr(Watching, method, watch)
        subject = self.make()
        subject.__class__ = Watching
        self.assertIs(subject.is_busy(), False)
        subject.apply_all(self.OPERATIONS)
        self.assertIs(subject.is_busy(), False)
        self.assertEqual(set(seen), {True})
        many = len(seen)
        with self.assertRaises(self.FAILING[0][1]):
            subject.apply_all([self.FAILING[0][0]])
        self.assertIs(subject.is_busy(), False)
        with self.assertRaises(InvalidOperation):
            subject.apply_all([None])
        self.assertIs(subject.is_busy(), False)
        while subject.undo():
            pass
        for operation in self.OPERATIONS:
            self.execute(subject, operation)
        self.assertEqual(set(seen[many:]) - {True}, {False})

    def test_returned_values_may_be_modified(self):
        subject = self.made(len(self.OPERATIONS) - 1)
        subject.save("kept")
        subject.undo()
        before = self.everything(subject)
        subject.history().clear()
        subject.checkpoints().append("x")
        self.assertEqual(self.everything(subject), before)
        subject.history().append(("step",))
        self.assertEqual(self.everything(subject), before)

    def test_two_objects_do_not_share_anything(self):
        first, second = self.make(), self.made(2)
        first.save("first")
        self.execute(first, self.OPERATIONS[0])
        self.assertEqual(second.history(), self.OPERATIONS[:2])
        self.assertEqual(second.checkpoints(), [])
        second.undo()
        self.assertEqual(first.history(), self.OPERATIONS[:1])
        self.assertEqual(self.tell(first), self.tell(second))

    def test_walks(self):
        """Undo, redo, save and restore as chance wants, beside lists of what must be told."""
        for seed in range(20):
            chance = random.Random(seed)
            subject = self.make()
            done, undone, saved = [], [], {}
            for _ in range(60):
                kind = chance.choice(["new", "new", "new", "undo", "undo", "redo", "save", "restore", "fail"])
                if kind == "new" and len(done) < len(self.OPERATIONS):
                    self.execute(subject, self.OPERATIONS[len(done)])
                    done, undone = done + [self.OPERATIONS[len(done)]], []
                elif kind == "undo":
                    self.assertIs(subject.undo(), bool(done))
                    if done:
                        done, undone = done[:-1], undone + done[-1:]
                elif kind == "redo":
                    self.assertIs(subject.redo(), bool(undone))
                    if undone:
                        done, undone = done + undone[-1:], undone[:-1]
                elif kind == "save":
                    name = chance.choice(NAMES)
                    subject.save(name)
                    saved[name] = (done, undone)
                elif kind == "restore" and saved:
                    name = chance.choice(sorted(saved))
                    subject.restore(name)
                    done, undone = saved[name]
                elif kind == "fail":
                    operation, error = chance.choice(self.FAILING)
                    with self.assertRaises(error):
                        subject.apply_all(self.OPERATIONS[len(done):][:2] + [operation])
                self.assertEqual(subject.history(), done)
                self.assertEqual(self.tell(subject), self.tell(self.made(len(done))))
                self.assertEqual(subject.checkpoints(), sorted(saved))
                self.assertEqual(len(self.everything(subject)), 1 + len(undone))
