"""Tests of onceonly.scripts: points 16 and 17 of the document."""

import random
import unittest

import modelling
import samples
from onceonly.errors import ExecutionFailed, InvalidSystem, InvalidWindows, ScriptError, StepLimitExceeded
from onceonly.runner import Runner
from onceonly.scripts import run_script, trace_script

SYSTEM = (2, ((0, 1, (0, 10), 2, 5),))
WINDOWS = (0, 8)
WORDS = "set add request deliver lose step run print repeat if else end now".split()


def script(*rows):
    return "\n".join(rows)


class ScriptCase(unittest.TestCase):
    def printed(self, *rows):
        """Return what a script of some rows prints."""
        return run_script(SYSTEM, WINDOWS, script(*rows))[1]

    def check_error(self, error, row, *rows):
        for ask in [run_script, trace_script]:
            with self.assertRaises(error) as caught:
                ask(SYSTEM, WINDOWS, script(*rows))
            self.assertEqual(caught.exception.row, row, rows)

    def check_wrong(self, row, *rows):
        self.check_error(ScriptError, row, *rows)

    def check_failed(self, row, *rows):
        self.check_error(ExecutionFailed, row, *rows)

    def check_limit(self, *rows):
        for ask in [run_script, trace_script]:
            with self.assertRaises(StepLimitExceeded):
                ask(SYSTEM, WINDOWS, script(*rows))


class ExamplesTest(ScriptCase):
    def test_run_script(self):
        found = run_script(SYSTEM, (0, 8), "request 3\nset n 4\ndeliver 0 0 0 1 n\nrun 20\nprint acts.1")
        self.assertEqual(found, ([(3, 0, 0, True), (17, 1, 0, True)], [1], {"n": 4}))

    def test_execution_failed(self):
        self.check_failed(1, "request 3", "request 2")

    def test_trace_script(self):
        found = trace_script(SYSTEM, (0, 8), "repeat 2\nstep\nend\nrequest 3\nstep")
        self.assertEqual(found, [("request", 3), ("step",)])


class StatementsTest(ScriptCase):
    def test_empty_script(self):
        self.assertEqual(run_script(SYSTEM, WINDOWS, ""), ([], [], {}))
        self.assertEqual(trace_script(SYSTEM, WINDOWS, ""), [])

    def test_set_and_add(self):
        found = run_script(SYSTEM, WINDOWS, script("set a 5", "add a -7", "add b 3", "set c b", "add c c", "set a a"))
        self.assertEqual(found, ([], [], {"a": -2, "b": 3, "c": 6}))

    def test_variables_that_are_not_assigned(self):
        self.assertEqual(run_script(SYSTEM, WINDOWS, script("print x", "set y x")), ([], [0], {"y": 0}))
        self.assertEqual(run_script(SYSTEM, WINDOWS, script("if x = 0", "add y 0", "else", "set z 1", "end"))[2], {"y": 0})

    def test_values(self):
        self.assertEqual(self.printed("print 0", "print -1", "print 99999", "print -99999", "print now", "print 10"),
                         [0, -1, 99999, -99999, -1, 10])
        self.assertEqual(self.printed("set acts 4", "set key 5", "print acts", "print key", "print acts.0", "print key.0"),
                         [4, 5, 0, 0])

    def test_now_acts_and_key(self):
        found = self.printed("request 3", "deliver 0 0 0 0 2", "deliver 0 0 0 1 2", "print now", "step", "print now",
                             "print acts.0", "print key.0", "print key.1", "run 4", "print key.0", "print acts.1",
                             "step", "print now", "print key.1", "run 13", "print key.1", "run 14", "print key.1",
                             "step", "print acts.1", "print acts.0", "print now")
        self.assertEqual(found, [-1, 3, 1, 1, 0, 0, 0, 5, 1, 1, 0, 2, 1, 15])
        for value in self.printed("request 3", "step", "print key.0", "print key.1"):
            self.assertIs(type(value), int)

    def test_services_up_to_the_last_digit(self):
        wide = (8, ((0, 7, (0,), 1, 1),))
        found = run_script(wide, (0,) * 8, script("request 0", "deliver 0 0 0 0 1", "run 1", "print acts.7", "print key.7"))
        self.assertEqual(found[1], [1, 1])

    def test_operations(self):
        source = script("request 3", "deliver 0 0 0 1 4", "lose 0 0 0 1", "deliver 0 0 0 0 5", "request 7", "step", "run 9")
        self.assertEqual(trace_script(SYSTEM, WINDOWS, source), [
            ("request", 3), ("deliver", (0, 0, 0, 1), 4), ("lose", (0, 0, 0, 1)), ("deliver", (0, 0, 0, 0), 5),
            ("request", 7), ("step",), ("run", 9)])
        self.assertEqual(run_script(SYSTEM, WINDOWS, source)[0], [(3, 0, 0, True), (7, 0, 1, True), (8, 1, 0, True)])

    def test_operations_with_variables(self):
        source = script("set t 3", "request t", "add t 1", "request t", "set k 1", "deliver k 0 0 k t", "lose k 0 0 0",
                        "step", "run now", "run 99999")
        self.assertEqual(trace_script(SYSTEM, WINDOWS, source), [
            ("request", 3), ("request", 4), ("deliver", (1, 0, 0, 1), 4), ("lose", (1, 0, 0, 0)), ("step",), ("run", 3),
            ("run", 99999)])

    def test_step_without_arrivals_is_not_recorded(self):
        self.assertEqual(trace_script(SYSTEM, WINDOWS, script("step", "run 5", "step", "run 5")), [("run", 5), ("run", 5)])

    def test_long_values_of_now(self):
        self.assertEqual(self.printed("request 99999", "deliver 0 0 0 1 5", "step", "step", "print now"), [100014])


class BlocksTest(ScriptCase):
    def test_repeat(self):
        for value, turns in [("0", 0), ("-1", 0), ("-99999", 0), ("1", 1), ("3", 3), ("90", 90), ("now", 0), ("x", 0)]:
            self.assertEqual(self.printed("repeat " + value, "print 7", "end", "print 8"), [7] * turns + [8])

    def test_repeat_evaluates_its_value_once(self):
        self.assertEqual(self.printed("set n 3", "repeat n", "add n 2", "print n", "end"), [5, 7, 9])
        self.assertEqual(self.printed("set n 3", "repeat n", "set n 0", "print n", "end"), [0, 0, 0])

    def test_signs(self):
        for left, right in [(1, 2), (2, 2), (2, 1), (-3, 0), (0, -3), (99999, -99999)]:
            for sign, holds in [("<", left < right), ("=", left == right), (">", left > right)]:
                row = "if {} {} {}".format(left, sign, right)
                self.assertEqual(self.printed(row, "print 1", "end", "print 3"), [1, 3] if holds else [3])
                self.assertEqual(self.printed(row, "print 1", "else", "print 2", "end", "print 3"), [1 if holds else 2, 3])

    def test_if_with_values(self):
        self.assertEqual(self.printed("request 4", "step", "if now = 4", "print acts.0", "end", "if acts.0 > key.1",
                                      "print 5", "else", "print 6", "end"), [1, 5])

    def test_empty_blocks(self):
        self.assertEqual(self.printed("repeat 4", "end", "if 1 < 2", "end", "if 1 < 2", "else", "end", "print 1"), [1])

    def test_fourth_level(self):
        rows = ["repeat 2", "if 1 < 2", "repeat 3", "if 1 > 2", "print 0", "else", "print 1", "end", "print 2", "end",
                "print 3", "end", "print 4", "end"]
        self.assertEqual(self.printed(*rows), ([1, 2, 1, 2, 1, 2, 3, 4] * 2))
        self.check_wrong(4, *(rows[:4] + ["repeat 1", "end"] + rows[4:]))
        self.check_wrong(6, *(rows[:6] + ["if 1 < 2", "end"] + rows[6:]))
        # After an end, there is room for another statement on the fourth level.
        rows = rows[:8] + ["if 1 < 2", "print 9", "end"] + rows[8:]
        self.assertEqual(self.printed(*rows), ([1, 9, 2, 1, 9, 2, 1, 9, 2, 3, 4] * 2))

    def test_else_belongs_to_the_innermost_if(self):
        rows = ["if 1 > 2", "if 1 < 2", "print 1", "else", "print 2", "end", "else", "print 3", "end"]
        self.assertEqual(self.printed(*rows), [3])
        self.assertEqual(self.printed("if 1 < 2", *rows[1:]), [1])
        rows = ["if 1 > 2", "else", "if 1 > 2", "print 1", "else", "print 2", "end", "print 3", "end"]
        self.assertEqual(self.printed(*rows), [2, 3])
        self.assertEqual(self.printed("repeat 2", *(rows[:-1] + ["end", "end"])), [2, 3, 2, 3])


class ScriptErrorTest(ScriptCase):
    def test_rows_that_are_no_statements(self):
        rows = [
            "", " ", "  ", "stop", "Step", "step ", " step", "step  ", "step 1", "step\t", "\tstep", "step\r", "steps",
            "set", "set a", "set a 1 2", "set  a 1", "set a  1", "set a 1 ", " set a 1", "set 1 a", "set a b c",
            "set a.b 1", "set acts.1 1", "set -a 1", "add", "add a", "add a 1 1", "request", "request 1 2", "request ",
            "request  1", "deliver 0 0 0 1", "deliver 0 0 0 1 4 5", "deliver 0 0 0 1  4", "deliver", "deliver (0 0 0 1) 4",
            "lose 0 0 0", "lose 0 0 0 1 4", "lose", "run", "run 1 2", "run 1 ", "print", "print 1 2", "print ",
            "repeat", "repeat 1 2", "repeat ", "if", "if 1", "if 1 <", "if 1 < 2 3", "if < 1 2", "if 1 2 <", "if 1 <= 2",
            "if 1 == 2", "if 1 >= 2", "if 1 <> 2", "if 1 ! 2", "if 1 lt 2", "if 1  2", "if 1 < 2 ", "else 1", "end 1",
            "end ", "else ", " end", "now", "acts", "a", "1", "-", "#", "# step", "step # now", "print 1 print 2",
            "print\u00a01", "step\u2028step", "step\x0bstep", "step\x0c",
        ]
        for row in rows:
            self.check_wrong(0, row, "step")
            self.check_wrong(2, "step", "print 1", row, "step")
            self.check_wrong(3, "step", "if 1 < 2", "print 1", row, "end", "stop")
            # The first wrong row is told, also if an end is missing.
            self.check_wrong(1, "repeat 1", row, "nonsense")

    def test_integers(self):
        good = ["0", "1", "9", "10", "99999", "-1", "-9", "-10", "-99999", "10000", "-10000"]
        bad = ["00", "01", "-0", "-00", "-01", "000000", "100000", "-100000", "012345", "--1", "+1", "1-", "1.0", "1,0",
               "0x1", "1e1", "1_0", "-", "", "\u0661", "\u00b2", "1\u0662", "\uff11", "- 1", "1a", "a1"]
        for word in good:
            self.assertEqual(self.printed("print " + word), [int(word)])
        for word in bad:
            self.check_wrong(1, "step", "print " + word)
            self.check_wrong(0, "if 1 < " + word, "end")
            self.check_wrong(0, "deliver 0 0 " + word + " 0 0")

    def test_variables(self):
        for word in ["a", "z", "abcdefgh", "zzzzzzzz", "acts", "key", "sets", "en", "nows", "at", "message"]:
            self.assertEqual(run_script(SYSTEM, WINDOWS, script("set " + word + " 1"))[2], {word: 1})
        for word in WORDS + ["abcdefghi", "A", "aB", "a1", "a_", "a-b", "a.b", "a.1", "\u00e4", "\u0430", "\u00df", ""]:
            self.check_wrong(0, "set " + word + " 1")
            self.check_wrong(0, "add " + word + " 1")
            if word != "now":
                self.check_wrong(0, "print " + word)
                self.check_wrong(0, "set a " + word)

    def test_questions(self):
        for word in ["acts.", "key.", "acts.10", "key.01", "acts.-1", "acts.a", "acts .1", "acts.1.", "acts.1.1", ".1",
                     "acts,1", "Acts.1", "now.1", "a.1", "keys.1", "acts.\u0661", "acts.\u00b2", "key.now", "key.-"]:
            self.check_wrong(1, "step", "print " + word)
            self.check_wrong(0, "set " + word + " 1")

    def test_else_and_end(self):
        self.check_wrong(0, "end")
        self.check_wrong(0, "else")
        self.check_wrong(2, "repeat 1", "end", "end")
        self.check_wrong(1, "repeat 1", "else", "end")
        self.check_wrong(2, "if 1 < 2", "else", "else", "end")
        self.check_wrong(3, "if 1 < 2", "else", "print 1", "else")
        self.check_wrong(2, "if 1 < 2", "repeat 1", "else", "end", "end")
        self.check_wrong(3, "if 1 < 2", "repeat 1", "end", "end 1", "end")
        self.check_wrong(4, "if 1 < 2", "else", "end", "step", "else")
        self.check_wrong(3, "if 1 < 2", "if 1 < 2", "else", "else", "end", "end")
        self.check_wrong(6, "if 1 < 2", "else", "if 1 < 2", "else", "step", "end", "else", "end")

    def test_missing_end(self):
        self.check_wrong(1, "repeat 1")
        self.check_wrong(2, "if 1 < 2", "step")
        self.check_wrong(3, "if 1 < 2", "else", "step")
        self.check_wrong(4, "repeat 1", "if 1 < 2", "else", "end")
        self.check_wrong(4, *["repeat 1"] * 4)
        self.check_wrong(60, *(["repeat 0"] + ["step"] * 59))

    def test_fifth_level(self):
        self.check_wrong(4, *["repeat 1"] * 5)
        self.check_wrong(4, *(["repeat 1"] * 5 + ["end"] * 5))
        self.check_wrong(5, *(["if 1 < 2"] * 4 + ["else", "if 1 < 2"] + ["end"] * 5))
        self.check_wrong(6, *(["repeat 1"] * 4 + ["step", "step", "repeat 0", "end"] + ["end"] * 4))

    def test_number_of_rows(self):
        self.assertEqual(self.printed(*["print 1"] * 60), [1] * 60)
        self.check_wrong(60, *["print 1"] * 61)
        self.check_wrong(60, *["print 1"] * 99)
        self.check_wrong(60, *(["print 1"] * 60 + [""]))
        self.check_wrong(60, *(["print 1"] * 60 + ["nonsense"]))
        self.check_wrong(60, *(["repeat 0"] + ["step"] * 60))
        self.check_wrong(59, *(["print 1"] * 59 + ["nonsense", "print 1"]))
        self.assertEqual(self.printed(*(["repeat 1"] + ["print 1"] * 58 + ["end"])), [1] * 58)

    def test_nothing_is_executed_before_the_script_is_read(self):
        self.check_wrong(2, "request 3", "request 2", "nonsense")
        self.check_wrong(4, "repeat 999", "step", "end", "print acts.9", "end")

    def test_line_feed_at_an_end(self):
        self.check_wrong(1, "step", "")
        self.check_wrong(0, "", "step")
        self.check_wrong(0, "", "")

    def test_errors_of_the_runner_come_first(self):
        for source in ["", "nonsense", "request 2\nrequest 1"]:
            for ask in [run_script, trace_script]:
                for system, part, index in samples.INVALID_SYSTEMS:
                    with self.assertRaises(InvalidSystem) as caught:
                        ask(system, None, source)
                    self.assertEqual((caught.exception.part, caught.exception.index), (part, index))
                for windows, index in samples.invalid_windows(2):
                    with self.assertRaises(InvalidWindows) as caught:
                        ask(SYSTEM, windows, source)
                    self.assertEqual(caught.exception.index, index)


class ExecutionFailedTest(ScriptCase):
    def test_services_that_do_not_exist(self):
        for service in range(2, 10):
            for word in ["acts.{}".format(service), "key.{}".format(service)]:
                for row in ["print " + word, "set a " + word, "add a " + word, "request " + word, "run " + word,
                            "deliver 0 0 0 0 " + word, "lose 0 0 0 " + word]:
                    self.check_failed(1, "request 3", row, "step")
                for row in ["repeat " + word, "if " + word + " = 0", "if 0 = " + word, "if 1 < " + word]:
                    self.check_failed(1, "step", row, "end")
        self.assertEqual(self.printed("print acts.1", "print key.0"), [0, 0])
        with self.assertRaises(ExecutionFailed):
            run_script(samples.ALONE, (0,), "print acts.1")

    def test_services_are_asked_for_only_when_the_statement_is_executed(self):
        self.assertEqual(self.printed("repeat 0", "print acts.9", "end", "if 1 > 2", "print key.9", "end", "print 1"), [1])

    def test_services_that_are_not_reached_exist(self):
        self.assertEqual(run_script(samples.UNREACHED, (0,) * 5, "print acts.1\nprint key.3")[1], [0, 0])

    def test_variables_out_of_range(self):
        self.assertEqual(self.printed("set a 99999", "add a 0", "print a", "set b -99999", "print b", "add a b", "print a"),
                         [99999, -99999, 0])
        self.check_failed(1, "set a 99999", "add a 1")
        self.check_failed(1, "set a -99999", "add a -1")
        self.check_failed(2, "set a -1", "step", "add a -99999")
        self.check_failed(3, "set a 60000", "repeat 2", "step", "add a a", "end")
        # The time can be beyond the range of variables.
        beyond = ["request 99999", "deliver 0 0 0 1 5", "step", "step"]
        self.check_failed(4, *(beyond + ["set t now"]))
        self.check_failed(4, *(beyond + ["add t now"]))
        self.assertEqual(self.printed(*(beyond + ["set t -99", "add t now", "print t"])), [99915])

    def test_operations_that_raise_errors(self):
        for row in ["request -1", "request 3", "request 2", "run -1", "run 4", "deliver 0 0 0 0 2", "lose 0 0 0 0",
                    "deliver 0 0 0 1 6", "deliver 0 0 0 1 1", "deliver 1 0 0 1 2", "lose 0 100 0 1", "lose 0 0 1 0",
                    "lose 0 0 0 2", "lose -1 0 0 0", "deliver 0 0 0 1 -2", "request now", "run acts.1"]:
            self.check_failed(2, "request 3", "run 5", row, "step")
        self.check_failed(9, *["request {}".format(k) for k in range(10)])
        self.check_failed(2, "set n 9", "repeat 3", "request n", "end")

    def test_row_within_blocks(self):
        self.check_failed(4, "if 1 > 2", "request -1", "else", "repeat 2", "run -5", "end", "end")

    def test_nothing_is_told_of_the_inner_error(self):
        with self.assertRaises(ExecutionFailed) as caught:
            run_script(SYSTEM, WINDOWS, "run -1")
        self.assertEqual(vars(caught.exception), {"row": 0})


class StepLimitTest(ScriptCase):
    def test_statements(self):
        # Each turn is a step, and so is each statement in it.
        for rows, steps in [
                (["repeat 299", "end"], 300), (["repeat 300", "end"], 301), (["repeat 149", "step", "end"], 299),
                (["repeat 149", "step", "end", "step"], 300), (["repeat 149", "step", "end", "step", "step"], 301),
                (["repeat 150", "step", "end"], 301), (["repeat 99999", "end"], 301), (["repeat 74", "if 1 < 2", "step",
                 "else", "step", "step", "end", "print 1", "end", "step", "step"], 299),
                (["repeat 5", "repeat 28", "step", "end", "end"], 291), (["repeat 5", "repeat 29", "step", "end", "end"], 301),
                (["repeat 297", "end", "if 1 > 2", "step", "end", "print 1"], 300),
                (["repeat 297", "end", "if 1 > 2", "step", "else", "step", "end", "print 1"], 301)]:
            if steps <= 300:
                run_script(SYSTEM, WINDOWS, script(*rows))
                rest = ["step"] * (300 - steps)
                run_script(SYSTEM, WINDOWS, script(*(rows + rest)))
                self.check_limit(*(rows + rest + ["step"]))
                self.check_limit(*(rows + rest + ["repeat 0", "end"]))
                self.check_limit(*(rows + rest + ["if 1 > 2", "end"]))
            else:
                self.check_limit(*rows)

    def test_limit_comes_before_an_error_of_the_same_step(self):
        self.check_limit("repeat 299", "end", "run -1")
        self.check_failed(2, "repeat 298", "end", "run -1")
        self.check_limit("repeat 299", "end", "print acts.9")
        self.check_limit("repeat 299", "end", "repeat acts.9", "end")
        self.check_failed(2, "repeat 298", "end", "repeat acts.9", "end")
        self.check_failed(1, "repeat 300", "run -1", "end")


def row_of(operation):
    """Return the row of a script for an operation of a runner."""
    words = [operation[0]]
    for argument in operation[1:]:
        words += map(str, argument if isinstance(argument, tuple) else (argument,))
    return " ".join(words)


class WholeScriptsTest(unittest.TestCase):
    def test_scripts_of_made_operations(self):
        for seed in range(60):
            chance = random.Random(seed)
            system = chance.choice(samples.SYSTEMS[:5] + samples.made_systems(61, 20, 5, 6, 3, 9))
            windows = tuple(chance.choice([0, 5, 30]) for _ in range(system[0]))
            model, rows, printed = modelling.Model(system, windows), [], []
            while len(rows) < 56:
                operation = modelling.made_operation(chance, model)
                if not isinstance(modelling.execute(model, operation), type):
                    rows.append(row_of(operation))
                if chance.random() < 0.2:
                    service = chance.randrange(system[0])
                    rows += ["print now", "print acts.{}".format(service), "print key.{}".format(service)]
                    printed += [model.time, model.tell()[2][service], int(model.remembering()[service])]
            source = "\n".join(rows)
            self.assertEqual(run_script(system, windows, source), (model.events(), printed, {}))
            runner = Runner(system, windows)
            runner.apply_all(trace_script(system, windows, source))
            self.assertEqual(modelling.tell(runner), model.tell())

    def test_results_may_be_modified(self):
        source = "request 3\nset n 4\ndeliver 0 0 0 1 n\nrun 20\nprint acts.1"
        events, printed, variables = run_script(SYSTEM, WINDOWS, source)
        events.clear()
        printed.append(5)
        variables["n"] = 9
        self.assertEqual(run_script(SYSTEM, WINDOWS, source), ([(3, 0, 0, True), (17, 1, 0, True)], [1], {"n": 4}))
        trace_script(SYSTEM, WINDOWS, source).clear()
        self.assertEqual(trace_script(SYSTEM, WINDOWS, source), [
            ("request", 3), ("deliver", (0, 0, 0, 1), 4), ("run", 20)])

    def test_kinds_of_values(self):
        found = run_script(SYSTEM, WINDOWS, "")
        self.assertEqual([type(found)] + [type(part) for part in found], [tuple, list, list, dict])
        self.assertIs(type(trace_script(SYSTEM, WINDOWS, "")), list)


if __name__ == "__main__":
    unittest.main()
