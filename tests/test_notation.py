"""Tests of onceonly.notation: point 18 of the document."""

import random
import unittest

import samples
from onceonly.errors import InvalidSchedule, InvalidSystem, InvalidWindows, NotationError
from onceonly.notation import format_schedule, format_system, parse_schedule, parse_system
from onceonly.windows import least_windows

SYSTEM = (2, ((0, 1, (0, 10), 2, 5),))
TEXT = "services 4\ncall 0 1 1-3 at 0 10\ncall 0 2 2-5 at 0\ncall 1 3 1-1 at 0\ncall 2 3 1-2 at 0 4\nwindows 0 12 0 11"
MADE = samples.made_systems(71, 60, 8, 20, 4, 99)

BAD_INTEGERS = [
    "", "-", "+1", "--1", "-0", "00", "01", "-01", "000", "100000", "-100000", "012345", "1.0", "1,", "x", "1x", "0x1",
    "1e1", "1_0", "(1)", "\u0661", "\u00b2", "\uff11", "1\t", "\t1", "1\r", "at", "call", "2-5", "1-",
]
GOOD_INTEGERS = ["0", "1", "9", "10", "99", "100", "99999", "-1", "-10", "-99999"]
BAD_JOINED = [
    "", "-", "2", "2-", "-5", "2--5", "-2-5", "2-5-", "2-5-7", "--", "02-5", "2-05", "2-100000", "100000-2", "00-5", "2-00",
    "-0-5", "2-+5", "2:5", "2- 5", "2\u20135", "\u0662-5", "2-\u0665", "a-b", "2-b", "a-5", "2-5\r", "\t2-5",
]


class ExamplesTest(unittest.TestCase):
    def test_format_system(self):
        self.assertEqual(format_system(SYSTEM, (0, 8)), "services 2\ncall 0 1 2-5 at 0 10\nwindows 0 8")

    def test_parse_system(self):
        self.assertEqual(parse_system("services 1\nwindows 7"), ((1, ()), (7,)))

    def test_notation_error(self):
        with self.assertRaises(NotationError) as caught:
            parse_system("services 1\nwindows 7\n")
        self.assertEqual((caught.exception.row, caught.exception.word), (2, 0))

    def test_schedules(self):
        self.assertEqual([format_schedule([(0, 0, 0, 1, 4)]), parse_schedule("message 0 0 0 1 4")],
                         ["message 0 0 0 1 4", [(0, 0, 0, 1, 4)]])


class FormatTest(unittest.TestCase):
    def test_systems(self):
        self.assertEqual(format_system(samples.ORDINARY, (0, 12, 0, 11)), TEXT)
        self.assertEqual(format_system((1, ()), (9999,)), "services 1\nwindows 9999")
        self.assertEqual(format_system((3, ()), (0, 1, 2)), "services 3\nwindows 0 1 2")
        self.assertEqual(format_system((2, ((0, 1, (0, 33, 66, 99), 0, 99),)), (1, 1)),
                         "services 2\ncall 0 1 0-99 at 0 33 66 99\nwindows 1 1")

    def test_schedules(self):
        self.assertEqual(format_schedule([]), "")
        self.assertEqual(format_schedule([(0, 0, 0, 0, 0), (8, 99, 19, 3, 99)]),
                         "message 0 0 0 0 0\nmessage 8 99 19 3 99")
        # Their order and meaning do not matter.
        self.assertEqual(format_schedule([(99, 99, 99, 99, 99), (1, 2, 3, 4, 5), (1, 2, 3, 4, 5)]),
                         "message 99 99 99 99 99\nmessage 1 2 3 4 5\nmessage 1 2 3 4 5")

    def test_read_again(self):
        chance = random.Random(72)
        for system in samples.SYSTEMS + MADE:
            windows = chance.choice([least_windows(system), (0,) * system[0], (9999,) * system[0]])
            self.assertEqual(parse_system(format_system(system, windows)), (system, windows))
            schedule = samples.made_schedule(chance, system, 2, 1, 0.4)
            self.assertEqual(parse_schedule(format_schedule(schedule)), schedule)
            text = format_schedule(schedule)
            self.assertEqual(format_schedule(parse_schedule(text)), text)

    def test_invalid_systems_and_windows(self):
        for system, part, index in samples.INVALID_SYSTEMS:
            with self.assertRaises(InvalidSystem) as caught:
                format_system(system, None)
            self.assertEqual((caught.exception.part, caught.exception.index), (part, index))
        for windows, index in samples.invalid_windows(2):
            with self.assertRaises(InvalidWindows) as caught:
                format_system(SYSTEM, windows)
            self.assertEqual(caught.exception.index, index)

    def test_invalid_schedules(self):
        good = [(0, 0, 0, 0, 1), (0, 0, 0, 0, 0), (99, 99, 99, 99, 99)]
        for schedule in [None, True, 0, "", "message 0 0 0 0 1", (), tuple(good), good[0]]:
            with self.assertRaises(InvalidSchedule) as caught:
                format_schedule(schedule)
            self.assertEqual(caught.exception.index, 0)
        items = [None, True, 0, "", "00000", (), [0, 0, 0, 0, 1], (0, 0, 0, 0), (0, 0, 0, 0, 0, 0), [(0, 0, 0, 0, 1)]]
        for bad in [-1, 100, None, True, False, "0", (), [0], samples.HUGE, -samples.HUGE]:
            items += [(0,) * place + (bad,) + (0,) * (4 - place) for place in range(5)]
        for item in items:
            for place in range(4):
                with self.assertRaises(InvalidSchedule) as caught:
                    format_schedule(good[:place] + [item] + good[place:] + [None])
                self.assertEqual(caught.exception.index, place)

    def test_schedules_stay_as_they_were(self):
        schedule = [(0, 0, 0, 1, 4), (1, 0, 0, 0, 2)]
        format_schedule(schedule)
        self.assertEqual(schedule, [(0, 0, 0, 1, 4), (1, 0, 0, 0, 2)])
        found = parse_schedule("message 0 0 0 1 4")
        found.clear()
        self.assertEqual(parse_schedule("message 0 0 0 1 4"), [(0, 0, 0, 1, 4)])

    def test_kinds_of_values(self):
        found = parse_system(TEXT)
        self.assertEqual([type(found), type(found[0]), type(found[0][1]), type(found[0][1][0]), type(found[0][1][0][2]),
                          type(found[1])], [tuple] * 6)
        self.assertEqual([type(parse_schedule("")), type(parse_schedule("message 0 0 0 1 4")[0])], [list, tuple])


class ParseSystemTest(unittest.TestCase):
    def check_wrong(self, text, row, word):
        with self.assertRaises(NotationError) as caught:
            parse_system(text)
        self.assertEqual((caught.exception.row, caught.exception.word), (row, word), repr(text))

    def check_wrong_row(self, row, text, word):
        """Check a row of TEXT that is replaced, whatever comes behind it."""
        rows = TEXT.split("\n")
        self.check_wrong("\n".join(rows[:row] + [text] + rows[row + 1:]), row, word)
        self.check_wrong("\n".join(rows[:row] + [text]), row, word)
        self.check_wrong("\n".join(rows[:row] + [text, "", "nonsense"]), row, word)

    def test_texts(self):
        self.assertEqual(parse_system(TEXT), (samples.ORDINARY, (0, 12, 0, 11)))
        self.assertEqual(parse_system("services 8\nwindows 0 1 2 3 4 5 6 9999"), ((8, ()), (0, 1, 2, 3, 4, 5, 6, 9999)))

    def test_first_row(self):
        for text, word in [("", 0), (" ", 0), (" services 4", 0), ("Services 4", 0), ("service 4", 0), ("services: 4", 0),
                           ("call 0 1 1-3 at 0 10", 0), ("windows 4", 0), ("4", 0), ("services", 1), ("services ", 1),
                           ("services  4", 1), ("services 4 ", 2), ("services 4 4", 2), ("services 4  4", 2),
                           ("services\t4", 0), ("services 4\r", 1), ("message 0 0 0 1 4", 0)]:
            self.check_wrong_row(0, text, word)
        for integer in BAD_INTEGERS:
            self.check_wrong_row(0, "services " + integer, 1)
            self.check_wrong_row(0, "services " + integer + " 4", 1)

    def test_rows_of_calls(self):
        words = "call 0 1 1-3 at 0 10".split()
        for row in [1, 4]:
            for many in range(1, 6):
                self.check_wrong_row(row, " ".join(words[:many]), many)
            for place in range(8):
                # An empty word between two words, or at an end of the row.
                self.check_wrong_row(row, " ".join(words[:place] + [""] + words[place:]), place)
            for place in [1, 2, 5, 6]:
                for integer in BAD_INTEGERS:
                    self.check_wrong_row(row, " ".join(words[:place] + [integer] + words[place + 1:]), place)
            for joined in BAD_JOINED:
                if " " not in joined:
                    self.check_wrong_row(row, " ".join(words[:3] + [joined] + words[4:]), 3)
            for at in ["At", "0", "", "in", "at:", "1-3", "at\t"]:
                self.check_wrong_row(row, " ".join(words[:4] + [at] + words[5:]), 4)
            for first in ["Call", "calls", "", "services", "message", "0", "call:", "at", "call\t0"]:
                self.check_wrong_row(row, " ".join([first] + words[1:]), 0)
            for more, word in [(["x"], 7), (["7", "x"], 8), ([""], 7), (["7", ""], 8), (["1-2"], 7), (["at"], 7)]:
                self.check_wrong_row(row, " ".join(words + more), word)

    def test_first_wrong_word(self):
        self.check_wrong_row(1, "call x y z w v", 1)
        self.check_wrong_row(1, "call 0 y z", 2)
        self.check_wrong_row(1, "call 0 1 z w", 3)
        self.check_wrong_row(1, "call 0 1 1-3 w x", 4)
        self.check_wrong_row(1, "call  0 1 1-3 at", 1)

    def test_row_of_windows(self):
        for text, word in [("windows ", 1), (" windows", 0), ("windows  0 12 0 11", 1), ("windows 0 12  0 11", 3),
                           ("windows 0 12 0 11 ", 5), ("windows 0 12 0 11 x", 5), ("window 0 12 0 11", 0), ("", 0),
                           ("windows 0-12 0 11", 1), ("Windows 0 12 0 11", 0)]:
            self.check_wrong_row(5, text, word)
        for integer in BAD_INTEGERS:
            self.check_wrong_row(5, "windows 0 12 " + integer + " 11", 3)
            self.check_wrong_row(5, "windows " + integer, 1)

    def test_rows_after_windows(self):
        for more in ["", " ", "windows 0 12 0 11", "call 0 1 1-3 at 0 10", "services 4", "x y z", "\n"]:
            self.check_wrong(TEXT + "\n" + more, 6, 0)
            self.check_wrong("services 1\nwindows\n" + more, 2, 0)
        # A wrong row before them comes first, but windows that are invalid do not.
        self.check_wrong("services 1\nwindows x\n", 1, 1)
        self.check_wrong("services 0\nwindows -1\n", 2, 0)

    def test_missing_windows(self):
        self.check_wrong("services 1", 1, 0)
        self.check_wrong("services 99999", 1, 0)
        rows = TEXT.split("\n")
        for many in range(1, 6):
            self.check_wrong("\n".join(rows[:many]), many, 0)
        self.check_wrong("services 1\n", 1, 0)

    def test_empty_texts(self):
        self.check_wrong("", 0, 0)
        self.check_wrong("\n", 0, 0)
        self.check_wrong("\n" + TEXT, 0, 0)
        self.check_wrong("services 4\n\nwindows 0 0 0 0", 1, 0)

    def test_other_line_ends(self):
        self.check_wrong("services 1\r\nwindows 7", 0, 1)
        self.check_wrong("services 1\rwindows 7", 0, 1)
        self.check_wrong("services 1\u2028windows 7", 0, 1)

    def test_integers_of_the_right_form(self):
        for integer in GOOD_INTEGERS:
            for text in ["services {}\nwindows", "services 9\ncall {} 1 1-3 at 0\nwindows", "services 9\nwindows {} x",
                         "services 9\ncall 0 {} 1-3 at 0\nwindows", "services 9\ncall 0 1 1-3 at 0 {}\nwindows"]:
                text = text.format(integer)
                if text.endswith("x"):
                    self.check_wrong(text, 1, 2)
                else:
                    with self.assertRaises((InvalidSystem, InvalidWindows)):
                        parse_system(text)
            if not integer.startswith("-"):
                with self.assertRaises(InvalidSystem):
                    parse_system("services 9\ncall 0 1 " + integer + "-" + integer + " at 0\nwindows")

    def test_invalid_systems(self):
        cases = [("services 0\nwindows", "count", 0), ("services 9\nwindows", "count", 0),
                 ("services -1\nwindows 0", "count", 0), ("services 99999\nwindows 0", "count", 0)]
        for call in ["1 0 1-3 at 0", "0 4 1-3 at 0", "-1 1 1-3 at 0", "0 1 3-1 at 0", "0 1 1-100 at 0", "0 1 1-3 at 5 0",
                     "0 1 1-3 at 0 0", "0 1 1-3 at -5", "0 1 1-3 at 100", "0 1 1-3 at 0 1 2 3 4", "0 1 99999-99999 at 0"]:
            rows = TEXT.split("\n")
            for index in range(5):
                rows_of_text = rows[:1 + index] + ["call " + call] + rows[1 + index:]
                cases.append(("\n".join(rows_of_text), "calls", index))
                # Windows are checked later.
                cases.append(("\n".join(rows_of_text[:-1] + ["windows -1"]), "calls", index))
        good = "call 0 1 1-3 at 0 10\n"
        cases.append(("services 4\n" + good * 21 + "windows", "calls", 20))
        cases.append(("services 4\n" + good * 30 + "windows 0 0 0 0", "calls", 20))
        for text, part, index in cases:
            with self.assertRaises(InvalidSystem) as caught:
                parse_system(text)
            self.assertEqual((caught.exception.part, caught.exception.index), (part, index), text)

    def test_invalid_windows(self):
        rows = TEXT.split("\n")[:-1]
        for windows, index in [("", 0), (" 0", 1), (" 0 0 0", 3), (" 0 0 0 0 0", 4), (" -1 0 0 0", 0), (" 0 10000 0 0", 1),
                               (" 0 0 99999", 2), (" 0 0 0 -1", 3), (" 9999 9999 9999 9999 7", 4)]:
            with self.assertRaises(InvalidWindows) as caught:
                parse_system("\n".join(rows + ["windows" + windows]))
            self.assertEqual(caught.exception.index, index)


class ParseScheduleTest(unittest.TestCase):
    def check_wrong(self, text, word):
        good = "message 0 0 0 1 4"
        for before in range(3):
            for after in [[], [good], ["nonsense"], [""]]:
                with self.assertRaises(NotationError) as caught:
                    parse_schedule("\n".join([good] * before + [text] + after))
                self.assertEqual((caught.exception.row, caught.exception.word), (before, word), text)

    def test_texts(self):
        self.assertEqual(parse_schedule(""), [])
        self.assertEqual(parse_schedule("message 99 98 97 96 95\nmessage 0 0 0 0 0\nmessage 0 0 0 0 0"),
                         [(99, 98, 97, 96, 95), (0, 0, 0, 0, 0), (0, 0, 0, 0, 0)])

    def test_words(self):
        words = "message 0 1 2 3 99".split()
        for many in range(1, 6):
            self.check_wrong(" ".join(words[:many]), many)
        for place in range(7):
            self.check_wrong(" ".join(words[:place] + [""] + words[place:]), place)
        for place in range(1, 6):
            for integer in BAD_INTEGERS:
                self.check_wrong(" ".join(words[:place] + [integer] + words[place + 1:]), place)
        for first in ["Message", "messages", "", "call", "0", "message:", "message\t0"]:
            self.check_wrong(" ".join([first] + words[1:]), 0)
        for more in ["0", "x", "", "0 0", "100"]:
            self.check_wrong(" ".join(words) + " " + more, 6)

    def test_numbers_out_of_range(self):
        words = "message 0 1 2 3 99".split()
        for place in range(1, 6):
            for integer in ["100", "99999", "-1", "-99999"]:
                out_of_range = words[:place] + [integer] + words[place + 1:]
                self.check_wrong(" ".join(out_of_range), place)
                self.check_wrong(" ".join(words[:place] + [integer] * (6 - place)), place)
                # The form of the whole row comes first.
                self.check_wrong(" ".join(out_of_range + ["0"]), 6)
                self.check_wrong(" ".join(out_of_range[:5]), 5)
                self.check_wrong(" ".join(out_of_range[:5] + ["x"]), 5)
        self.check_wrong("message 100 0 0 -1 x", 5)
        self.check_wrong("message 100 0 x 0 0", 3)

    def test_empty_rows(self):
        for text, row in [("\n", 0), ("\nmessage 0 0 0 1 4", 0), ("message 0 0 0 1 4\n", 1), ("\n\n", 0)]:
            with self.assertRaises(NotationError) as caught:
                parse_schedule(text)
            self.assertEqual((caught.exception.row, caught.exception.word), (row, 0))


if __name__ == "__main__":
    unittest.main()
