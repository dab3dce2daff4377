"""Scripts, which are executed on new runners."""

from onceonly.errors import ExecutionFailed, OnceError, StepLimitExceeded
from onceonly.runner import Runner
from onceonly.statements import parse_script
from onceonly.words import is_integer

MOST_STEPS = 300
GREATEST_VALUE = 99999


def operation_of(word, values):
    """Return the operation of a runner that a word and its values stand for."""
    if word in ("deliver", "lose"):
        return (word, tuple(values[:4]), *values[4:])
    return (word, *values)


def compares(first, sign, second):
    """Tell whether a comparison holds."""
    if sign == "<":
        return first < second
    if sign == "=":
        return first == second
    return first > second


class Execution:
    """The execution of a script on a new runner."""

    def __init__(self, system, windows):
        self.runner = Runner(system, windows)
        self.system = system
        self.variables = {}
        self.printed = []
        self.steps = 0

    def take_step(self):
        """Count a step before it is made."""
        if self.steps >= MOST_STEPS:
            raise StepLimitExceeded("a script has at most 300 steps")
        self.steps += 1

    def answer(self, word, row):
        """Return what `acts.` or `key.` and a service stand for."""
        kind, _, digit = word.partition(".")
        service = int(digit)
        if service >= self.system[0]:
            raise ExecutionFailed(row)
        if kind == "acts":
            return self.runner.act_counts()[service]
        return 1 if self.runner.remembering()[service] else 0

    def evaluate(self, word, row):
        """Return the integer that a value at a row stands for."""
        if is_integer(word):
            return int(word)
        if word == "now":
            return self.runner.current_time()
        if "." in word:
            return self.answer(word, row)
        return self.variables.get(word, 0)

    def assign(self, statement):
        """Execute `set` or `add`."""
        variable, word = statement.arguments
        value = self.evaluate(word, statement.row)
        if statement.word == "add":
            value += self.variables.get(variable, 0)
        if abs(value) > GREATEST_VALUE:
            raise ExecutionFailed(statement.row)
        self.variables[variable] = value

    def repeat(self, statement):
        """Execute `repeat`."""
        for _ in range(self.evaluate(statement.arguments[0], statement.row)):
            self.take_step()
            self.execute_block(statement.block)

    def choose(self, statement):
        """Execute `if`."""
        left, sign, right = statement.arguments
        first, second = self.evaluate(left, statement.row), self.evaluate(right, statement.row)
        self.execute_block(statement.block if compares(first, sign, second) else statement.otherwise)

    def operate(self, statement):
        """Execute an operation of the runner."""
        values = [self.evaluate(word, statement.row) for word in statement.arguments]
        try:
            self.runner.execute(operation_of(statement.word, values))
        except OnceError:
            raise ExecutionFailed(statement.row) from None

    def execute(self, statement):
        """Execute a statement."""
        self.take_step()
        match statement.word:
            case "set" | "add":
                self.assign(statement)
            case "print":
                self.printed.append(self.evaluate(statement.arguments[0], statement.row))
            case "repeat":
                self.repeat(statement)
            case "if":
                self.choose(statement)
            case _:
                self.operate(statement)

    def execute_block(self, block):
        """Execute statements one after the other."""
        for statement in block:
            self.execute(statement)


def executed(system, windows, source):
    """Return the execution of a whole script."""
    execution = Execution(system, windows)
    execution.execute_block(parse_script(source))
    return execution


def run_script(system, windows, source):
    """Return the tuple of all events, the printed values, and the variables that were assigned."""
    execution = executed(system, windows, source)
    return execution.runner.all_events(), execution.printed, execution.variables


def trace_script(system, windows, source):
    """Return the history of the runner after a script."""
    return executed(system, windows, source).runner.history()
