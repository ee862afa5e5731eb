"""Points 2 to 6: the windows that events give, name by name, with count and sum."""

import unittest

from weirgauge.story import in_order
from words import drawer_for, drawn_plan, windows_by_the_words

HUGE = 10 ** 100 - 1


class InOrderCase(unittest.TestCase):
    def assert_windows(self, plan, events, wanted):
        with self.subTest(plan=plan, events=events):
            windows = in_order(plan, events)
            self.assertIs(type(windows), list)
            for window in windows:
                self.assertIs(type(window), tuple)
                self.assertEqual([type(part) for part in window], [str, int, int, int, int])
            self.assertEqual(windows, wanted)


class FixedWindows(InOrderCase):
    PLAN = ("fixed", 10, 3)

    def test_no_events(self):
        self.assert_windows(self.PLAN, [], [])

    def test_count_and_sum(self):
        self.assert_windows(self.PLAN, [("a", 13, 5), ("a", 17, -2), ("a", 11, 4)], [("a", 10, 20, 3, 7)])

    def test_a_start_is_in_a_window_and_an_end_is_not(self):
        self.assert_windows(self.PLAN, [("a", 10, 1), ("a", 19, 2), ("a", 20, 4)],
                            [("a", 10, 20, 2, 3), ("a", 20, 30, 1, 4)])

    def test_nought_and_below(self):
        self.assert_windows(self.PLAN, [("a", 0, 1), ("a", -1, 2), ("a", -10, 4), ("a", -11, 8)],
                            [("a", -20, -10, 1, 8), ("a", -10, 0, 2, 6), ("a", 0, 10, 1, 1)])

    def test_a_window_without_events_is_not_there(self):
        self.assert_windows(self.PLAN, [("a", 35, 1), ("a", 5, 1)], [("a", 0, 10, 1, 1), ("a", 30, 40, 1, 1)])

    def test_each_name_has_windows_of_its_own(self):
        self.assert_windows(self.PLAN, [("b", 5, 1), ("a", 5, 2), ("b", 6, 4)],
                            [("a", 0, 10, 1, 2), ("b", 0, 10, 2, 5)])

    def test_by_name_as_texts_are_ordered_and_then_by_start(self):
        events = [(name, time, 1) for time in (15, -5) for name in ("b", "aa", "", "a", "B", "\u00e4")]
        wanted = [(name, start, start + 10, 1, 1) for name in ("", "B", "a", "aa", "b", "\u00e4")
                  for start in (-10, 10)]
        self.assert_windows(self.PLAN, events, wanted)

    def test_equal_events_are_counted_each(self):
        self.assert_windows(self.PLAN, [("a", 5, 3)] * 4, [("a", 0, 10, 4, 12)])

    def test_amounts_that_come_to_nought(self):
        self.assert_windows(self.PLAN, [("a", 5, 3), ("a", 5, -3), ("b", 5, 0)],
                            [("a", 0, 10, 2, 0), ("b", 0, 10, 1, 0)])

    def test_a_hundred_figures(self):
        self.assert_windows(("fixed", HUGE, HUGE), [("a", HUGE, HUGE), ("a", -HUGE, -HUGE), ("a", HUGE - 1, HUGE)],
                            [("a", -HUGE, 0, 1, -HUGE), ("a", 0, HUGE, 1, HUGE), ("a", HUGE, 2 * HUGE, 1, HUGE)])
        self.assert_windows(self.PLAN, [("a", HUGE, HUGE), ("a", HUGE - 9, HUGE)],
                            [("a", HUGE - 9, HUGE + 1, 2, 2 * HUGE)])


class SlidingWindows(InOrderCase):
    def test_no_events(self):
        self.assert_windows(("sliding", 10, 5, 0), [], [])

    def test_a_time_in_several(self):
        self.assert_windows(("sliding", 10, 5, 0), [("a", 12, 1), ("a", 9, 2)],
                            [("a", 0, 10, 1, 2), ("a", 5, 15, 2, 3), ("a", 10, 20, 1, 1)])

    def test_a_step_that_does_not_divide_the_length(self):
        self.assert_windows(("sliding", 5, 3, 0), [("a", 0, 1)], [("a", -3, 2, 1, 1), ("a", 0, 5, 1, 1)])
        self.assert_windows(("sliding", 5, 3, 0), [("a", 2, 1)], [("a", 0, 5, 1, 1)])

    def test_a_step_greater_than_the_length(self):
        plan = ("sliding", 3, 10, 0)
        self.assert_windows(plan, [("a", 3, 1), ("a", 9, 1), ("a", -1, 1)], [])
        self.assert_windows(plan, [("a", 2, 1), ("a", 3, 2), ("a", 10, 4), ("b", -8, 8)],
                            [("a", 0, 3, 1, 1), ("a", 10, 13, 1, 4), ("b", -10, -7, 1, 8)])

    def test_a_hundred_steps(self):
        self.assert_windows(("sliding", 100, 1, 0), [("a", 0, 7)],
                            [("a", start, start + 100, 1, 7) for start in range(-99, 1)])
        self.assert_windows(("sliding", 100, 1, 0), [("a", 0, 7), ("a", 1, 5)],
                            [("a", -99, 1, 1, 7)] + [("a", start, start + 100, 2, 12) for start in range(-98, 1)]
                            + [("a", 1, 101, 1, 5)])

    def test_a_hundred_figures(self):
        self.assert_windows(("sliding", HUGE, HUGE + 1, 0), [("a", HUGE, 1), ("a", -1, 1)], [])
        self.assert_windows(("sliding", HUGE, HUGE + 1, 0),
                            [("a", -HUGE, -HUGE), ("a", HUGE - 1, HUGE), ("a", 0, HUGE)],
                            [("a", -HUGE - 1, -1, 1, -HUGE), ("a", 0, HUGE, 2, 2 * HUGE)])


class PausesWindows(InOrderCase):
    PLAN = ("pauses", 7, 2)

    def test_no_events(self):
        self.assert_windows(self.PLAN, [], [])

    def test_one_event_alone(self):
        self.assert_windows(self.PLAN, [("a", 4, 9)], [("a", 4, 11, 1, 9)])

    def test_less_than_the_length_beyond_and_just_the_length(self):
        self.assert_windows(self.PLAN, [("a", 0, 1), ("a", 6, 2)], [("a", 0, 13, 2, 3)])
        self.assert_windows(self.PLAN, [("a", 0, 1), ("a", 7, 2)], [("a", 0, 7, 1, 1), ("a", 7, 14, 1, 2)])
        self.assert_windows(self.PLAN, [("a", 0, 1), ("a", 8, 2)], [("a", 0, 7, 1, 1), ("a", 8, 15, 1, 2)])

    def test_each_event_is_held_against_the_one_ahead_not_against_the_first(self):
        self.assert_windows(self.PLAN, [("a", 6 * number, 1) for number in range(10)], [("a", 0, 61, 10, 10)])

    def test_the_order_of_coming_changes_nothing(self):
        events = [("a", time, 1) for time in (0, 6, 12, 19, 25, 40)]
        wanted = [("a", 0, 19, 3, 3), ("a", 19, 32, 2, 2), ("a", 40, 47, 1, 1)]
        drawer = drawer_for("orders")
        for _ in range(50):
            drawer.shuffle(events)
            self.assert_windows(self.PLAN, list(events), wanted)

    def test_an_event_between_two_windows_joins_them(self):
        self.assert_windows(self.PLAN, [("a", 0, 1), ("a", 12, 2), ("a", 6, 4)], [("a", 0, 19, 3, 7)])

    def test_an_event_of_another_name_joins_nothing(self):
        self.assert_windows(self.PLAN, [("a", 0, 1), ("a", 12, 2), ("b", 6, 4)],
                            [("a", 0, 7, 1, 1), ("a", 12, 19, 1, 2), ("b", 6, 13, 1, 4)])

    def test_equal_events_and_equal_times(self):
        self.assert_windows(self.PLAN, [("a", 3, 5), ("a", 3, 5), ("a", 3, -1)], [("a", 3, 10, 3, 9)])

    def test_a_length_of_one_parts_all_but_equal_times(self):
        self.assert_windows(("pauses", 1, 0), [("a", 1, 1), ("a", 0, 1), ("a", 1, 1), ("a", -1, 1)],
                            [("a", -1, 0, 1, 1), ("a", 0, 1, 1, 1), ("a", 1, 2, 2, 2)])

    def test_below_nought(self):
        self.assert_windows(self.PLAN, [("a", -3, 1), ("a", 3, 2), ("a", -10, 4)],
                            [("a", -10, -3, 1, 4), ("a", -3, 10, 2, 3)])

    def test_a_hundred_figures(self):
        self.assert_windows(("pauses", HUGE, 0), [("a", HUGE, HUGE), ("a", 0, 1), ("a", -HUGE + 1, -HUGE)],
                            [("a", -HUGE + 1, HUGE, 2, 1 - HUGE), ("a", HUGE, 2 * HUGE, 1, HUGE)])


class DrawnEvents(InOrderCase):
    def test_many_drawn_lists(self):
        for seed in range(600):
            drawer = drawer_for(seed)
            scale = drawer.choice((1, 1, 10 ** 98))
            plan = drawn_plan(drawer, scale)
            events = [(drawer.choice(("", "a", "b")), drawer.randint(-40, 40) * scale, drawer.randint(-9, 9) * scale)
                      for _ in range(drawer.randint(0, 30))]
            self.assert_windows(plan, events, windows_by_the_words(plan, events))

    def test_a_hundred_and_fifty_events_of_ten_names(self):
        for plan in (("fixed", 10, 3), ("sliding", 100, 1, 4), ("sliding", 3, 10, 0), ("pauses", 4, 2)):
            drawer = drawer_for(str(plan))
            events = [(chr(97 + drawer.randrange(10)), drawer.randint(-90, 90), drawer.randint(-HUGE, HUGE))
                      for _ in range(170)]
            self.assert_windows(plan, events, windows_by_the_words(plan, events))


if __name__ == "__main__":
    unittest.main()
