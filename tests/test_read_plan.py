"""Point 16: a plan is read from its line; another text is refused with NoLine, a plan that can't be with BadPlan."""

import re
import unittest

from weirgauge.errors import BadPlan, NoLine
from weirgauge.lines import read_plan
from weirgauge.plans import check_plan

HUGE = 10 ** 100 - 1

PLANS_AND_LINES = (
    (("fixed", 10, 3), "fixed 10 3"),
    (("sliding", 10, 5, 0), "sliding 10 5 0"),
    (("pauses", 7, 2), "pauses 7 2"),
    (("fixed", 1, 0), "fixed 1 0"),
    (("sliding", 1, 1, 0), "sliding 1 1 0"),
    (("pauses", 1, 0), "pauses 1 0"),
    (("sliding", 100, 1, 9), "sliding 100 1 9"),
    (("sliding", 3, 10, 9), "sliding 3 10 9"),
    (("fixed", 101, 1), "fixed 101 1"),
    (("pauses", 101, 1), "pauses 101 1"),
    (("fixed", HUGE, HUGE), "fixed " + "9" * 100 + " " + "9" * 100),
    (("sliding", HUGE, 10 ** 99, 10 ** 120), "sliding " + "9" * 100 + " 1" + "0" * 99 + " 1" + "0" * 120),
)

LINES_OF_PLANS_THAT_CANNOT_BE = (
    "fixed 0 0", "fixed -1 0", "fixed 1 -1", "fixed -5 -5", "sliding 0 1 0", "sliding 1 0 0", "sliding 1 1 -1",
    "sliding -1 1 0", "sliding 1 -1 0", "sliding 101 1 0", "sliding 701 7 3", "sliding 0 0 0", "pauses 0 0",
    "pauses -1 0", "pauses 1 -1", "fixed -" + "9" * 100 + " 0", "sliding " + "9" * 100 + " 1 0",
    "pauses 5 -" + "9" * 100,
)

WRONG_LINES = (
    "", " ", "\n", "fixed", "sliding", "pauses", "fixed 10", "sliding 10 5", "pauses 7", "fixed 10 3 0",
    "sliding 10 5 0 0", "pauses 7 2 1", "fixed  10 3", "fixed 10  3", " fixed 10 3", "fixed 10 3 ", "fixed 10 3\n",
    "\nfixed 10 3", "fixed\t10\t3", "fixed 10\n3", "fixed 10 3\r", "fixed\u00a010 3", "Fixed 10 3", "FIXED 10 3",
    "fix 10 3", "fixeds 10 3",
    "10 3", "10 3 fixed", "10 fixed 3", "a 10 3", " 10 3", "fixed a 3", "fixed 10 a", "fixed ten 3", "mark 5",
    "event a 1 2", "mark 5 6", "sliding  10 5 0", "sliding 10 5 0 ", " sliding 10 5 0", "sliding 10 5 0\n",
    "Sliding 10 5 0", "slide 10 5 0",
    "pauses  7 2", "pauses 7 2 ", " pauses 7 2", "pauses 7 2\n", "Pauses 7 2", "pause 7 2", "('fixed', 10, 3)",
    "fixed,10,3", "fixed 10,3", "fixed 10 3fixed 10 3", "fixed 10 3 fixed 10 3",
)

WRONG_NUMBERS = ("", "+1", "-0", "+0", "01", "00", "-01", "--1", "-", "1.0", "1e3", "1_0", "0x1", "a", "1a", "1\n",
                 "\t1", "\u00b2", "\u0661", "\uff11", "\u22121", "0" * 50)

A_LINE = re.compile(r"((fixed|pauses)|sliding (0|-?[1-9][0-9]*)) (0|-?[1-9][0-9]*) (0|-?[1-9][0-9]*)")


class ReadPlan(unittest.TestCase):
    def assert_refused(self, line, wanted):
        with self.subTest(line=line):
            with self.assertRaises(ValueError) as caught:
                read_plan(line)
            self.assertIs(type(caught.exception), wanted)

    def test_each_line_is_read_to_its_plan(self):
        for plan, line in PLANS_AND_LINES:
            with self.subTest(line=line):
                found = read_plan(line)
                self.assertIs(type(found), tuple)
                self.assertEqual([type(part) for part in found], [str] + [int] * (len(plan) - 1))
                self.assertEqual(found, plan)

    def test_plans_that_cannot_be(self):
        for line in LINES_OF_PLANS_THAT_CANNOT_BE:
            self.assert_refused(line, BadPlan)

    def test_lines_that_are_not_so_written(self):
        for line in WRONG_LINES:
            self.assert_refused(line, NoLine)

    def test_wrong_numbers_at_each_place(self):
        for number in WRONG_NUMBERS:
            for line in ("fixed N 3", "fixed 10 N", "sliding N 5 0", "sliding 10 N 0", "sliding 10 5 N", "pauses N 2",
                         "pauses 7 N"):
                self.assert_refused(line.replace("N", number), NoLine)

    def test_a_wrong_line_is_refused_ahead_of_a_plan_that_cannot_be(self):
        for line in ("fixed 0 +1", "fixed -1 01", "fixed 0 0 ", " fixed 0 0", "fixed 0  0", "fixed 0", "fixed 0 0 0",
                     "sliding 101 1", "sliding 101 1 -0", "sliding 0 01 0", "sliding 0 0", "pauses 0 -0",
                     "pauses -1 -1\n", "pauses 0 0 0", "Fixed 0 0"):
            self.assert_refused(line, NoLine)

    def test_small_numbers_all_round(self):
        for kind, many in (("fixed", 2), ("pauses", 2), ("sliding", 3)):
            for first in range(-2, 4):
                for second in range(-2, 4):
                    numbers = (first, second, 1)[:many]
                    self.assert_just_a_plan((kind,) + numbers)

    def assert_just_a_plan(self, plan):
        line = " ".join(str(part) for part in plan)
        try:
            check_plan(plan)
        except BadPlan:
            self.assert_refused(line, BadPlan)
        else:
            self.assertEqual(read_plan(line), plan)

    def test_lines_with_one_sign_changed_put_in_or_left_out(self):
        for line in ("fixed 10 3", "pauses 7 20", "sliding 10 50 0"):
            for place in range(len(line) + 1):
                self.assert_a_line_or_none(line[:place] + line[place + 1:])
                for sign in " \n-+0a1\u0663":
                    self.assert_a_line_or_none(line[:place] + sign + line[place:])
                    self.assert_a_line_or_none(line[:place] + sign + line[place + 1:])

    def assert_a_line_or_none(self, text):
        if A_LINE.fullmatch(text):
            word, numbers = text.split(" ")[0], text.split(" ")[1:]
            self.assert_just_a_plan((word,) + tuple(int(number) for number in numbers))
        else:
            self.assert_refused(text, NoLine)


if __name__ == "__main__":
    unittest.main()
