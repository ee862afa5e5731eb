import unittest

from weirgauge.plans import spans_at

HUGE = 10 ** 100 - 1

FAR_TIMES = (-HUGE, -HUGE + 1, -10 ** 50, 10 ** 50, HUGE - 1, HUGE, HUGE * 1000, -HUGE * 1000)


def spans_by_the_words(length, step, time):
    """All windows that points 3 and 4 give, by trying every start that could be near."""
    near = range(time - length - step - 2, time + length + step + 3)
    return [(start, start + length) for start in near
            if start % step == 0 and start <= time and time < start + length]


class SpansCase(unittest.TestCase):
    def assert_kinds(self, spans):
        self.assertIs(type(spans), list)
        for span in spans:
            self.assertIs(type(span), tuple)
            self.assertEqual([type(part) for part in span], [int, int])

    def assert_spans(self, plan, time, wanted):
        with self.subTest(plan=plan, time=time):
            spans = spans_at(plan, time)
            self.assert_kinds(spans)
            self.assertEqual(spans, wanted)

    def assert_all_and_only(self, plan, length, step, time):
        """Holds for numbers of any size, where not every start can be tried."""
        with self.subTest(plan=plan, time=time):
            spans = spans_at(plan, time)
            self.assert_kinds(spans)
            for start, end in spans:
                self.assertEqual(start % step, 0)
                self.assertEqual(end - start, length)
                self.assertTrue(start <= time < end)
            for ahead, behind in zip(spans, spans[1:]):
                self.assertEqual(behind[0] - ahead[0], step)
            last = time - time % step
            if spans:
                self.assertEqual(spans[-1][0], last)
                self.assertFalse(time < spans[0][0] - step + length)
            else:
                self.assertFalse(time < last + length)


class FixedSpans(SpansCase):
    def test_at_a_start_one_ahead_of_the_end_and_at_the_end(self):
        plan = ("fixed", 10, 3)
        self.assert_spans(plan, 20, [(20, 30)])
        self.assert_spans(plan, 25, [(20, 30)])
        self.assert_spans(plan, 29, [(20, 30)])
        self.assert_spans(plan, 30, [(30, 40)])

    def test_at_nought_and_below(self):
        plan = ("fixed", 10, 3)
        self.assert_spans(plan, 0, [(0, 10)])
        self.assert_spans(plan, 9, [(0, 10)])
        self.assert_spans(plan, -1, [(-10, 0)])
        self.assert_spans(plan, -10, [(-10, 0)])
        self.assert_spans(plan, -11, [(-20, -10)])

    def test_a_length_of_one(self):
        for time in (-2, -1, 0, 1, 2, HUGE, -HUGE):
            self.assert_spans(("fixed", 1, 0), time, [(time, time + 1)])

    def test_a_length_of_more_than_a_hundred(self):
        self.assert_spans(("fixed", 1000, 1), 1999, [(1000, 2000)])
        self.assert_spans(("fixed", 1000, 1), -1, [(-1000, 0)])

    def test_near_times_by_the_words_of_the_points(self):
        for length in range(1, 13):
            for time in range(-30, 31):
                self.assert_spans(("fixed", length, 2), time, spans_by_the_words(length, length, time))

    def test_a_hundred_figures(self):
        self.assert_spans(("fixed", HUGE, 0), 0, [(0, HUGE)])
        self.assert_spans(("fixed", HUGE, 0), -1, [(-HUGE, 0)])
        self.assert_spans(("fixed", HUGE, 0), HUGE - 1, [(0, HUGE)])
        self.assert_spans(("fixed", HUGE, 0), HUGE, [(HUGE, 2 * HUGE)])
        self.assert_spans(("fixed", HUGE, 0), -HUGE, [(-HUGE, 0)])
        self.assert_spans(("fixed", HUGE, 0), -HUGE - 1, [(-2 * HUGE, -HUGE)])
        self.assert_spans(("fixed", 10, 0), HUGE, [(HUGE - 9, HUGE + 1)])
        self.assert_spans(("fixed", 10, 0), -HUGE, [(-HUGE - 1, -HUGE + 9)])
        for length in (1, 3, 7, 10 ** 49 + 9, 10 ** 99 + 7, HUGE, HUGE * 1000):
            for time in FAR_TIMES:
                plan = ("fixed", length, HUGE)
                self.assert_all_and_only(plan, length, length, time)
                self.assertEqual(len(spans_at(plan, time)), 1)

    def test_the_grace_changes_no_window(self):
        for grace in (0, 1, 10, HUGE):
            self.assert_spans(("fixed", 10, grace), 15, [(10, 20)])


class SlidingSpans(SpansCase):
    def test_a_step_that_divides_the_length(self):
        plan = ("sliding", 10, 5, 0)
        self.assert_spans(plan, 9, [(0, 10), (5, 15)])
        self.assert_spans(plan, 10, [(5, 15), (10, 20)])
        self.assert_spans(plan, 14, [(5, 15), (10, 20)])
        self.assert_spans(plan, 15, [(10, 20), (15, 25)])

    def test_a_step_that_does_not_divide_the_length(self):
        plan = ("sliding", 10, 4, 0)
        self.assert_spans(plan, 12, [(4, 14), (8, 18), (12, 22)])
        self.assert_spans(plan, 13, [(4, 14), (8, 18), (12, 22)])
        self.assert_spans(plan, 14, [(8, 18), (12, 22)])
        self.assert_spans(plan, 15, [(8, 18), (12, 22)])
        self.assert_spans(plan, 16, [(8, 18), (12, 22), (16, 26)])

    def test_at_nought_and_below(self):
        plan = ("sliding", 10, 4, 0)
        self.assert_spans(plan, 0, [(-8, 2), (-4, 6), (0, 10)])
        self.assert_spans(plan, -1, [(-8, 2), (-4, 6)])
        self.assert_spans(plan, -4, [(-12, -2), (-8, 2), (-4, 6)])
        self.assert_spans(plan, -12, [(-20, -10), (-16, -6), (-12, -2)])

    def test_a_step_greater_than_the_length(self):
        plan = ("sliding", 3, 10, 0)
        self.assert_spans(plan, 10, [(10, 13)])
        self.assert_spans(plan, 12, [(10, 13)])
        self.assert_spans(plan, 13, [])
        self.assert_spans(plan, 19, [])
        self.assert_spans(plan, 0, [(0, 3)])
        self.assert_spans(plan, 3, [])
        self.assert_spans(plan, -1, [])
        self.assert_spans(plan, -7, [])
        self.assert_spans(plan, -8, [(-10, -7)])
        self.assert_spans(plan, -10, [(-10, -7)])

    def test_a_step_as_great_as_the_length(self):
        for time in range(-25, 26):
            self.assert_spans(("sliding", 10, 10, 0), time, spans_at(("fixed", 10, 0), time))

    def test_a_step_one_greater_than_the_length(self):
        self.assert_spans(("sliding", 4, 5, 0), 4, [])
        self.assert_spans(("sliding", 4, 5, 0), 3, [(0, 4)])
        self.assert_spans(("sliding", 4, 5, 0), -1, [])
        self.assert_spans(("sliding", 4, 5, 0), -2, [(-5, -1)])

    def test_a_length_of_a_hundred_steps(self):
        for step in (1, 2, 7, 10 ** 98 - 1, HUGE):
            for time in (-step - 1, -step, -1, 0, 1, step - 1, step, 99 * step, 100 * step) + FAR_TIMES:
                plan = ("sliding", 100 * step, step, 0)
                self.assert_all_and_only(plan, 100 * step, step, time)
                self.assertEqual(len(spans_at(plan, time)), 100)

    def test_a_length_of_all_but_a_hundred_steps(self):
        plan = ("sliding", 99 * 7 + 1, 7, 0)
        self.assertEqual(len(spans_at(plan, 700)), 100)
        self.assertEqual(len(spans_at(plan, 701)), 99)

    def test_near_times_by_the_words_of_the_points(self):
        for length in range(1, 11):
            for step in range(1, 14):
                for time in range(-20, 21):
                    self.assert_spans(("sliding", length, step, 1), time, spans_by_the_words(length, step, time))

    def test_a_hundred_figures(self):
        self.assert_spans(("sliding", 10, 5, 0), HUGE, [(HUGE - 9, HUGE + 1), (HUGE - 4, HUGE + 6)])
        self.assert_spans(("sliding", 1, HUGE, 0), HUGE, [(HUGE, HUGE + 1)])
        self.assert_spans(("sliding", 1, HUGE, 0), HUGE - 1, [])
        self.assert_spans(("sliding", 1, HUGE, 0), -HUGE, [(-HUGE, -HUGE + 1)])
        self.assert_spans(("sliding", 1, HUGE, 0), -HUGE + 1, [])
        for length in (1, 3, 100, 10 ** 49 + 9, HUGE, HUGE * 1000):
            for step in (length // 100 + 1, length // 3 + 1, length, length + 1, 2 * length + 1, HUGE * 10 ** 6):
                for time in FAR_TIMES + (-1, 0, 1):
                    self.assert_all_and_only(("sliding", length, step, HUGE), length, step, time)

    def test_the_grace_changes_no_window(self):
        for grace in (0, 1, 10, HUGE):
            self.assert_spans(("sliding", 10, 5, grace), 15, [(10, 20), (15, 25)])


class PausesSpans(SpansCase):
    def test_the_one_window_from_the_time_on(self):
        for time in (-8, -7, -1, 0, 1, 6, 7, 8):
            self.assert_spans(("pauses", 7, 2), time, [(time, time + 7)])

    def test_a_length_of_one(self):
        for time in (-1, 0, 1):
            self.assert_spans(("pauses", 1, 0), time, [(time, time + 1)])

    def test_a_hundred_figures(self):
        for time in FAR_TIMES + (-1, 0, 1):
            for length in (1, 7, HUGE, HUGE * 1000):
                self.assert_spans(("pauses", length, HUGE), time, [(time, time + length)])

    def test_the_grace_changes_no_window(self):
        for grace in (0, 1, 7, HUGE):
            self.assert_spans(("pauses", 7, grace), 3, [(3, 10)])


class NothingIsKept(SpansCase):
    def test_an_answer_that_is_changed_changes_no_later_one(self):
        for plan in (("fixed", 10, 3), ("sliding", 10, 5, 0), ("pauses", 7, 2)):
            with self.subTest(plan=plan):
                wanted = tuple(spans_at(plan, 12))
                spans_at(plan, 12).clear()
                self.assertEqual(tuple(spans_at(plan, 12)), wanted)

    def test_the_plan_stays_as_it_was(self):
        for plan in (("fixed", 10, 3), ("sliding", 10, 5, 0), ("pauses", 7, 2)):
            with self.subTest(plan=plan):
                ahead = tuple(plan)
                spans_at(plan, -12)
                self.assertEqual(plan, ahead)


if __name__ == "__main__":
    unittest.main()
