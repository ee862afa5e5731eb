"""Point 15: each deed is written as one line and read back from it; every other text is refused."""

import itertools
import re
import unittest

from weirgauge.errors import NoLine
from weirgauge.lines import read, read_all, shown
from words import drawer_for

HUGE = 10 ** 100 - 1

DEEDS_AND_LINES = (
    (("mark", 5), "mark 5"),
    (("mark", 0), "mark 0"),
    (("mark", -7), "mark -7"),
    (("mark", 10), "mark 10"),
    (("mark", -10), "mark -10"),
    (("mark", HUGE), "mark " + "9" * 100),
    (("mark", -HUGE), "mark -" + "9" * 100),
    (("mark", 10 ** 120), "mark 1" + "0" * 120),
    (("event", "a", 12, 3), "event a 12 3"),
    (("event", "weir", -12, -3), "event weir -12 -3"),
    (("event", "z", 0, 0), "event z 0 0"),
    (("event", "mark", 1, 2), "event mark 1 2"),
    (("event", "event", 1, 2), "event event 1 2"),
    (("event", "abcdefghijklmnopqrstuvwxyz", 100, -100), "event abcdefghijklmnopqrstuvwxyz 100 -100"),
    (("event", "q" * 500, 1, 2), "event " + "q" * 500 + " 1 2"),
    (("event", "a", HUGE, -HUGE), "event a " + "9" * 100 + " -" + "9" * 100),
    (("event", "a", -10 ** 120, 10 ** 120), "event a -1" + "0" * 120 + " 1" + "0" * 120),
)

WRONG_NUMBERS = (
    "", "+1", "-0", "+0", "01", "00", "-01", "-00", "--1", "-", "+", "1-", "- 1", "1.0", "1.", ".5", "1e3",
    "1_000", "0x1", "0b1", "1,000", "a", "x1", "1x", "1\n", "\n1", "1\t", "\t1", "1\r", "1\x00", "1\u00a0", "\u00b2",
    "\u0661", "\uff11",
    "\u22121", "\u00bd", "True", "None", "one", "1L", "'1'", "(1)", "-0x1", "0 ", " 0", "0" * 100, "0" + "9" * 99)

WRONG_NAMES = (
    "", "A", "aA", "Weir", "a1", "1", "0", "-", "a-b", "a_b", "_", "a.b", "\u00e4", "\u00df", "\u0131", "\u017f",
    "\u03b1", "\uff41", "a\n", "\na", "a\t", "\ta", "a\x00", "a\u00a0b", "`", "{", "'a'", "a,")

WRONG_LINES = (
    "", " ", "  ", "\n", "mark", "event", "mark ", "event ", " mark 5", "mark 5 ", "mark  5", "mark 5 6", "mark a",
    "mark a 5", "mark\t5", "mark\n5", "mark 5\n", "\nmark 5", "mark 5\r\n", "mark 5\r", "mark 5\x0b", "mark 5\x0c",
    "mark\u00a05", "mark\u20035", "mark 5\u2028", "\ufeffmark 5", "mark5", "Mark 5", "MARK 5", "marks 5", "mar 5", "5",
    "5 mark", "mark 5 mark 5", "mark 5\nmark 6", "mark,5", "('mark', 5)",
    "event a", "event a 1", "event a 1 2 3", "event a 1 2 b", "event 1 2", "event  1 2", "event a  1 2", "event a 1  2",
    " event a 1 2", "event a 1 2 ", "event  a 1 2", "event a 1 2\n", "\nevent a 1 2", "event a\t1 2", "event\ta\t1\t2",
    "event a b 1 2", "event 1 a 2", "event 1 2 a", "Event a 1 2", "EVENT a 1 2", "events a 1 2", "even a 1 2", "a 1 2",
    "event A 1 2", "event mark 1", "mark event 1 2", "event a 1 2\nevent a 1 2", "event a 1 2 event a 1 2",
    "fixed 10 3", "sliding 10 5 0", "pauses 7 2", "told a 0 10 1 7", "gone a 0 10", "missed a 1 2", "#mark 5",
    "mark 5 #",
)

A_LINE = re.compile(r"(mark (0|-?[1-9][0-9]*)|event [a-z]+ (0|-?[1-9][0-9]*) (0|-?[1-9][0-9]*))")


class LinesCase(unittest.TestCase):
    def assert_refused(self, called, handed):
        with self.subTest(called=called.__name__, handed=handed):
            with self.assertRaises(ValueError) as caught:
                called(handed)
            self.assertIs(type(caught.exception), NoLine)

    def assert_deed(self, deed, wanted):
        self.assertIs(type(deed), tuple)
        self.assertEqual([type(part) for part in deed], [type(part) for part in wanted])
        self.assertEqual(deed, wanted)


class Shown(LinesCase):
    def test_each_deed_is_written_as_its_line(self):
        for deed, line in DEEDS_AND_LINES:
            with self.subTest(line=line):
                self.assertEqual(shown(deed), line)
                self.assertIs(type(shown(deed)), str)

    def test_no_two_deeds_are_written_alike(self):
        deeds = [("mark", time) for time in range(-120, 121)]
        deeds += [("event", name, time, amount) for name in ("a", "b", "ab", "mark") for time in range(-12, 13)
                  for amount in range(-12, 13)]
        self.assertEqual(len({shown(deed) for deed in deeds}), len(deeds))


class Read(LinesCase):
    def test_each_line_is_read_to_its_deed(self):
        for deed, line in DEEDS_AND_LINES:
            with self.subTest(line=line):
                self.assert_deed(read(line), deed)

    def test_drawn_deeds_are_read_back(self):
        drawer = drawer_for("deeds")
        for _ in range(500):
            bound = 10 ** drawer.randint(0, 110)
            name = "".join(drawer.choice("abcxyz") for _ in range(drawer.randint(1, 9)))
            for deed in (("mark", drawer.randint(-bound, bound)),
                         ("event", name, drawer.randint(-bound, bound), drawer.randint(-bound, bound))):
                self.assertTrue(A_LINE.fullmatch(shown(deed)))
                self.assert_deed(read(shown(deed)), deed)

    def test_wrong_numbers(self):
        for number in WRONG_NUMBERS:
            self.assert_refused(read, "mark " + number)
            self.assert_refused(read, "event a " + number + " 1")
            self.assert_refused(read, "event a 1 " + number)

    def test_wrong_names(self):
        for name in WRONG_NAMES:
            self.assert_refused(read, "event " + name + " 1 2")

    def test_wrong_lines(self):
        for line in WRONG_LINES:
            self.assert_refused(read, line)

    def test_a_wrong_name_and_wrong_numbers_at_once(self):
        for line in ("event A 01 +2", "event  +1 -0", "mark  ", "event    "):
            self.assert_refused(read, line)

    def test_every_short_text_behind_a_word(self):
        for many in range(5):
            for signs in itertools.product(" -0+1a\n", repeat=many):
                for word in ("mark", "event a 1", "event a"):
                    self.assert_just_a_line(word + "".join(signs))

    def test_lines_with_one_sign_changed_put_in_or_left_out(self):
        for line in ("mark 10", "mark -5", "event ab 10 -3", "event mark 0 0"):
            for place in range(len(line) + 1):
                self.assert_just_a_line(line[:place] + line[place + 1:])
                for sign in " \n\t-+_.0a1Z9z\u0663\u00e9`{/:":
                    self.assert_just_a_line(line[:place] + sign + line[place:])
                    self.assert_just_a_line(line[:place] + sign + line[place + 1:])

    def assert_just_a_line(self, text):
        if A_LINE.fullmatch(text):
            self.assertEqual(shown(read(text)), text)
        else:
            self.assert_refused(read, text)


class ReadAll(LinesCase):
    def test_no_lines(self):
        self.assertEqual(read_all([]), [])
        self.assertIs(type(read_all([])), list)

    def test_a_list_of_deeds_in_their_order(self):
        for pairs in (DEEDS_AND_LINES, DEEDS_AND_LINES[::-1], DEEDS_AND_LINES * 10):
            lines = [pair[1] for pair in pairs]
            ahead = list(lines)
            deeds = read_all(lines)
            self.assertIs(type(deeds), list)
            self.assertEqual(deeds, [pair[0] for pair in pairs])
            self.assertEqual(lines, ahead)

    def test_one_wrong_line_anywhere_is_refused(self):
        good = [pair[1] for pair in DEEDS_AND_LINES[:3]]
        for line in WRONG_LINES:
            for place in range(len(good) + 1):
                lines = good[:place] + [line] + good[place:]
                ahead = list(lines)
                self.assert_refused(read_all, lines)
                self.assertEqual(lines, ahead)


if __name__ == "__main__":
    unittest.main()
