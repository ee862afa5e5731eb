"""What is there behind a list of deeds: the windows that stand, those that are kept, the missed events."""

import unittest

from weirgauge.story import kept_after, missed, standing

HUGE = 10 ** 100 - 1


class BehindCase(unittest.TestCase):
    def assert_rows(self, rows, kinds, wanted):
        self.assertIs(type(rows), list)
        for row in rows:
            self.assertIs(type(row), tuple)
            self.assertEqual([type(part) for part in row], kinds)
        self.assertEqual(rows, wanted)

    def assert_standing(self, plan, deeds, wanted):
        self.assert_rows(standing(plan, deeds), [str, int, int, int, int], wanted)

    def assert_kept(self, plan, deeds, wanted):
        self.assert_rows(kept_after(plan, deeds), [str, int, int, int, int, bool], wanted)

    def assert_missed(self, plan, deeds, wanted):
        self.assert_rows(missed(plan, deeds), [str, int, int], wanted)


class NoDeeds(BehindCase):
    def test_nothing_is_there(self):
        for plan in (("fixed", 10, 3), ("sliding", 10, 5, 0), ("pauses", 7, 2)):
            self.assert_standing(plan, [], [])
            self.assert_kept(plan, [], [])
            self.assert_missed(plan, [], [])

    def test_nor_behind_a_mark_alone(self):
        for plan in (("fixed", 10, 3), ("sliding", 10, 5, 0), ("pauses", 7, 2)):
            self.assert_standing(plan, [("mark", 5)], [])
            self.assert_kept(plan, [("mark", 5)], [])
            self.assert_missed(plan, [("mark", 5)], [])


class Standing(BehindCase):
    def test_nothing_stands_ahead_of_the_first_mark(self):
        for plan in (("fixed", 10, 3), ("sliding", 10, 5, 0), ("pauses", 7, 2)):
            self.assert_standing(plan, [("event", "a", -HUGE, 1), ("event", "a", 5, 1)], [])

    def test_a_mark_equal_to_an_end_and_one_less(self):
        self.assert_standing(("fixed", 10, 3), [("event", "a", 5, 7), ("mark", 9)], [])
        self.assert_standing(("fixed", 10, 3), [("event", "a", 5, 7), ("mark", 10)], [("a", 0, 10, 1, 7)])

    def test_by_name_and_start_and_not_as_told(self):
        deeds = [("event", "b", 5, 1), ("event", "a", 25, 2), ("event", "a", 5, 4), ("event", "", 15, 8), ("mark", 30),
                 ("event", "B", 29, 16)]
        self.assert_standing(("fixed", 10, 3), deeds,
                             [("", 10, 20, 1, 8), ("B", 20, 30, 1, 16), ("a", 0, 10, 1, 4), ("a", 20, 30, 1, 2),
                              ("b", 0, 10, 1, 1)])

    def test_with_the_count_and_the_sum_as_told_last(self):
        deeds = [("event", "a", 5, 1), ("mark", 10), ("event", "a", 7, 2), ("event", "a", 9, -4)]
        self.assert_standing(("fixed", 10, 3), deeds, [("a", 0, 10, 3, -1)])

    def test_a_window_stands_on_when_it_is_kept_no_more(self):
        deeds = [("event", "a", 5, 1), ("mark", 10), ("mark", 10 ** 9)]
        for plan, end in ((("fixed", 10, 3), 10), (("pauses", 5, 0), 10)):
            self.assert_standing(plan, deeds, [("a", end - plan[1], end, 1, 1)])

    def test_a_missed_event_is_not_counted(self):
        deeds = [("event", "a", 5, 1), ("mark", 10), ("event", "a", 6, 2)]
        self.assert_standing(("fixed", 10, 3), deeds, [("a", 0, 10, 1, 1)])

    def test_a_lesser_mark_changes_nothing(self):
        deeds = [("event", "a", 5, 1), ("mark", 10), ("mark", 3), ("event", "a", 7, 2)]
        self.assert_standing(("fixed", 10, 3), deeds, [("a", 0, 10, 2, 3)])

    def test_a_sliding_plan(self):
        deeds = [("event", "a", 7, 1), ("mark", 10)]
        self.assert_standing(("sliding", 10, 5, 0), deeds, [("a", 0, 10, 1, 1)])
        self.assert_standing(("sliding", 10, 5, 0), deeds + [("mark", 15)], [("a", 0, 10, 1, 1), ("a", 5, 15, 1, 1)])
        self.assert_standing(("sliding", 3, 10, 0), deeds, [])

    def test_a_sliding_plan_of_a_hundred_steps(self):
        deeds = [("event", "a", 0, 7), ("mark", 50)]
        self.assert_standing(("sliding", 100, 1, 50), deeds,
                             [("a", start, start + 100, 1, 7) for start in range(-99, -49)])

    def test_windows_that_are_gone_stand_no_more(self):
        deeds = [("event", "a", 0, 1), ("event", "a", 18, 2), ("mark", 27)]
        self.assert_standing(("pauses", 10, 30), deeds, [("a", 0, 10, 1, 1)])
        self.assert_standing(("pauses", 10, 30), deeds + [("event", "a", 9, 4)], [])
        self.assert_standing(("pauses", 10, 30), deeds + [("event", "a", 9, 4), ("mark", 28)], [("a", 0, 28, 3, 7)])
        self.assert_standing(("pauses", 10, 30), deeds + [("mark", 28), ("event", "a", 9, 4)], [("a", 0, 28, 3, 7)])
        self.assert_standing(("pauses", 10, 30), deeds + [("event", "a", 5, 4)], [("a", 0, 15, 2, 5)])

    def test_a_hundred_figures(self):
        deeds = [("event", "a", -HUGE, HUGE), ("mark", HUGE), ("event", "a", HUGE - 1, HUGE)]
        self.assert_standing(("fixed", HUGE, 1), deeds, [("a", -HUGE, 0, 1, HUGE), ("a", 0, HUGE, 1, HUGE)])


class KeptAfter(BehindCase):
    def test_all_are_kept_and_none_is_closed_ahead_of_the_first_mark(self):
        deeds = [("event", "b", HUGE, 1), ("event", "a", 5, 1), ("event", "a", -HUGE, 2)]
        self.assert_kept(("fixed", 1, 0), deeds, [("a", -HUGE, 1 - HUGE, 1, 2, False), ("a", 5, 6, 1, 1, False),
                                                  ("b", HUGE, HUGE + 1, 1, 1, False)])

    def test_the_end_against_the_mark_less_the_grace(self):
        deeds = [("event", "a", 5, 7)]
        for mark, wanted in ((9, [("a", 0, 10, 1, 7, False)]), (10, [("a", 0, 10, 1, 7, True)]),
                             (12, [("a", 0, 10, 1, 7, True)]), (13, []), (14, [])):
            with self.subTest(mark=mark):
                self.assert_kept(("fixed", 10, 3), deeds + [("mark", mark)], wanted)

    def test_without_grace_no_closed_window_is_kept(self):
        deeds = [("event", "a", 5, 7)]
        self.assert_kept(("fixed", 10, 0), deeds + [("mark", 9)], [("a", 0, 10, 1, 7, False)])
        self.assert_kept(("fixed", 10, 0), deeds + [("mark", 10)], [])

    def test_the_greatest_mark_holds(self):
        deeds = [("event", "a", 5, 7), ("mark", 13), ("mark", 1)]
        self.assert_kept(("fixed", 10, 3), deeds, [])

    def test_by_name_and_start(self):
        deeds = [("event", "b", 5, 1), ("event", "a", 25, 2), ("event", "a", 5, 4), ("event", "", 15, 8), ("mark", 20)]
        self.assert_kept(("fixed", 10, 50), deeds, [("", 10, 20, 1, 8, True), ("a", 0, 10, 1, 4, True),
                                                    ("a", 20, 30, 1, 2, False), ("b", 0, 10, 1, 1, True)])

    def test_a_sliding_plan(self):
        deeds = [("event", "a", 7, 1), ("event", "a", 13, 2), ("mark", 17)]
        self.assert_kept(("sliding", 10, 5, 5), deeds, [("a", 5, 15, 2, 3, True), ("a", 10, 20, 1, 2, False)])
        self.assert_kept(("sliding", 3, 10, 5), deeds, [])
        self.assert_kept(("sliding", 4, 10, 5), deeds, [("a", 10, 14, 1, 2, True)])

    def test_a_plan_of_pauses(self):
        deeds = [("event", "a", 0, 1), ("event", "a", 18, 2), ("mark", 27)]
        self.assert_kept(("pauses", 10, 17), deeds, [("a", 18, 28, 1, 2, False)])
        self.assert_kept(("pauses", 10, 18), deeds, [("a", 0, 10, 1, 1, True), ("a", 18, 28, 1, 2, False)])
        self.assert_kept(("pauses", 10, 18), deeds + [("event", "a", 9, 4)], [("a", 0, 28, 3, 7, False)])
        self.assert_kept(("pauses", 10, 18), deeds + [("event", "a", 9, 4), ("mark", 28)], [("a", 0, 28, 3, 7, True)])

    def test_a_missed_event_gives_no_window(self):
        self.assert_kept(("pauses", 10, 0), [("mark", 5), ("event", "a", 4, 1)], [])
        self.assert_kept(("pauses", 10, 0), [("mark", 5), ("event", "a", 5, 1)], [("a", 5, 15, 1, 1, False)])
        self.assert_kept(("fixed", 10, 0), [("mark", 5), ("event", "a", 4, 1)], [])

    def test_a_hundred_figures(self):
        deeds = [("event", "a", -HUGE, HUGE), ("event", "a", 0, -HUGE), ("mark", HUGE)]
        self.assert_kept(("fixed", HUGE, HUGE), deeds, [("a", 0, HUGE, 1, -HUGE, True)])
        self.assert_kept(("fixed", HUGE, HUGE + 1), deeds,
                         [("a", -HUGE, 0, 1, HUGE, True), ("a", 0, HUGE, 1, -HUGE, True)])


class Missed(BehindCase):
    def test_in_the_order_in_which_they_came(self):
        deeds = [("event", "c", 1, 1), ("mark", 20), ("event", "b", 16, 1), ("event", "a", 17, 2), ("event", "a", 5, 3),
                 ("mark", 19), ("event", "b", -6, -4), ("event", "a", 5, 3), ("mark", 21), ("event", "a", 17, 5)]
        for plan in (("fixed", 10, 3), ("sliding", 10, 5, 3), ("sliding", 1, 50, 3), ("pauses", 10, 3)):
            with self.subTest(plan=plan):
                self.assert_missed(plan, deeds, [("b", 16, 1), ("a", 5, 3), ("b", -6, -4), ("a", 5, 3), ("a", 17, 5)])

    def test_none_ahead_of_the_first_mark(self):
        self.assert_missed(("fixed", 10, 0), [("event", "a", -HUGE, 1), ("mark", HUGE)], [])

    def test_an_event_in_no_window_is_not_missed_for_that(self):
        self.assert_missed(("sliding", 3, 10, 0), [("mark", 4), ("event", "a", 5, 1)], [])

    def test_the_empty_name_and_great_numbers(self):
        deeds = [("mark", HUGE), ("event", "", -HUGE - 1, -HUGE), ("event", "", -HUGE, HUGE)]
        self.assert_missed(("pauses", HUGE, 2 * HUGE), deeds, [("", -HUGE - 1, -HUGE)])


if __name__ == "__main__":
    unittest.main()
