"""Texts of systems, windows and schedules."""

from onceonly.errors import InvalidSchedule, NotationError
from onceonly.systems import LAST_TICK, is_number_within
from onceonly.windows import check_windows
from onceonly.words import is_integer, is_natural

# The words of the rows: "N" stands for an integer, "N-N" for two joined ones.
SERVICES = ("services", "N")
CALL = ("call", "N", "N", "N-N", "at", "N")
WINDOWS = ("windows",)
MESSAGE = ("message", "N", "N", "N", "N", "N")


def joined(words):
    """Return a row of words, or of integers."""
    return " ".join([str(word) for word in words])


def call_row(call):
    """Return the row of a call."""
    caller, target, offsets, least, most = call
    return joined(["call", caller, target, f"{least}-{most}", "at", *offsets])


def format_system(system, windows):
    """Return the text of a system and windows."""
    check_windows(system, windows)
    count, calls = system
    rows = [joined(["services", count])] + [call_row(call) for call in calls] + [joined(["windows", *windows])]
    return "\n".join(rows)


def is_schedule_row(item):
    """Tell whether an item of a list is a tuple of five integers that can stand in a text."""
    if not isinstance(item, tuple) or len(item) != 5:
        return False
    return all([is_number_within(number, 0, LAST_TICK) for number in item])


def format_schedule(schedule):
    """Return the text of a schedule."""
    if not isinstance(schedule, list):
        raise InvalidSchedule(0)
    for index, item in enumerate(schedule):
        if not is_schedule_row(item):
            raise InvalidSchedule(index)
    return "\n".join([joined(["message", *entry]) for entry in schedule])


def is_right(word, part):
    """Tell whether a word has the form of a part of a row."""
    if part == "N":
        return is_integer(word)
    if part == "N-N":
        least, _, most = word.partition("-")
        return is_natural(least) and is_natural(most)
    return word == part


def check_row(row, words, parts, has_more):
    """Raise NotationError if the words of a row do not have a form, behind which there may be more integers."""
    for index, word in enumerate(words):
        if index < len(parts):
            fits = is_right(word, parts[index])
        else:
            fits = has_more and is_integer(word)
        if not fits:
            raise NotationError(row, index)
    if len(words) < len(parts):
        raise NotationError(row, len(words))


def integers(words):
    """Return the tuple of the integers that words stand for."""
    return tuple([int(word) for word in words])


def parse_call(words):
    """Return the call of a row that has the right form."""
    least, _, most = words[3].partition("-")
    return (int(words[1]), int(words[2]), integers(words[5:]), int(least), int(most))


def parse_system(text):
    """Return the tuple of the system and the windows of a text."""
    rows = [line.split(" ") for line in text.split("\n")]
    check_row(0, rows[0], SERVICES, False)
    calls = []
    row = 1
    while row < len(rows) and rows[row][0] == CALL[0]:
        check_row(row, rows[row], CALL, True)
        calls.append(parse_call(rows[row]))
        row += 1
    if row == len(rows):
        raise NotationError(row, 0)
    check_row(row, rows[row], WINDOWS, True)
    if row + 1 < len(rows):
        raise NotationError(row + 1, 0)
    system = (int(rows[0][1]), tuple(calls))
    windows = integers(rows[row][1:])
    check_windows(system, windows)
    return system, windows


def parse_schedule(text):
    """Return the schedule of a text."""
    rows = text.split("\n") if text else []
    schedule = []
    for row, line in enumerate(rows):
        words = line.split(" ")
        check_row(row, words, MESSAGE, False)
        entry = integers(words[1:])
        for index, number in enumerate(entry):
            if not is_number_within(number, 0, LAST_TICK):
                raise NotationError(row, index + 1)
        schedule.append(entry)
    return schedule
