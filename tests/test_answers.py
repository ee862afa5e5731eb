"""Points 7 to 12: what each deed tells, and in which order."""

import unittest

from weirgauge.story import answers

HUGE = 10 ** 100 - 1


class AnswersCase(unittest.TestCase):
    def assert_tells(self, plan, deeds_and_tells):
        deeds = [pair[0] for pair in deeds_and_tells]
        wanted = [pair[1] for pair in deeds_and_tells]
        told = answers(plan, deeds)
        self.assertIs(type(told), list)
        for tells in told:
            self.assertIs(type(tells), list)
            for tell in tells:
                self.assertIs(type(tell), tuple)
        self.assertEqual(told, wanted)


class Marks(AnswersCase):
    PLAN = ("fixed", 10, 3)

    def test_no_deeds(self):
        for plan in (self.PLAN, ("sliding", 10, 5, 0), ("pauses", 7, 2)):
            self.assert_tells(plan, [])

    def test_a_mark_equal_to_an_end_closes_and_one_less_does_not(self):
        self.assert_tells(self.PLAN, [
            (("event", "a", 5, 7), []),
            (("mark", 9), []),
            (("mark", 10), [("told", "a", 0, 10, 1, 7)]),
        ])

    def test_a_mark_beyond_an_end(self):
        self.assert_tells(self.PLAN, [
            (("event", "a", 5, 7), []),
            (("mark", 11), [("told", "a", 0, 10, 1, 7)]),
        ])

    def test_a_mark_that_is_not_greater_tells_nothing_and_changes_nothing(self):
        self.assert_tells(self.PLAN, [
            (("mark", 20), []),
            (("event", "a", 17, 1), [("told", "a", 10, 20, 1, 1)]),
            (("mark", 20), []),
            (("mark", 5), []),
            (("mark", -100), []),
            (("event", "a", 16, 2), [("missed", "a", 16, 2)]),
            (("event", "a", 18, 4), [("told", "a", 10, 20, 2, 5)]),
            (("mark", 19), []),
            (("mark", 21), []),
            (("event", "a", 17, 8), [("missed", "a", 17, 8)]),
        ])

    def test_a_closed_window_is_not_told_by_a_later_mark(self):
        self.assert_tells(self.PLAN, [
            (("event", "a", 5, 7), []),
            (("mark", 10), [("told", "a", 0, 10, 1, 7)]),
            (("mark", 11), []),
            (("event", "a", 15, 1), []),
            (("mark", 30), [("told", "a", 10, 20, 1, 1)]),
        ])

    def test_ahead_of_the_first_mark_nothing_is_closed_or_too_late(self):
        for plan in (self.PLAN, ("sliding", 10, 5, 0), ("pauses", 7, 2)):
            self.assert_tells(plan, [
                (("event", "a", HUGE, 1), []),
                (("event", "a", -HUGE, 2), []),
                (("event", "a", -1, 3), []),
                (("event", "a", 0, 4), []),
            ])

    def test_a_first_mark_of_nought_or_below_holds(self):
        self.assert_tells(("fixed", 10, 0), [
            (("event", "a", -15, 1), []),
            (("mark", -20), []),
            (("mark", -10), [("told", "a", -20, -10, 1, 1)]),
            (("event", "a", -11, 1), [("missed", "a", -11, 1)]),
            (("event", "a", -10, 2), []),
            (("mark", 0), [("told", "a", -10, 0, 1, 2)]),
            (("event", "a", -1, 1), [("missed", "a", -1, 1)]),
            (("mark", -5), []),
            (("event", "a", -1, 1), [("missed", "a", -1, 1)]),
            (("event", "a", 0, 4), []),
        ])

    def test_a_mark_that_closes_nothing(self):
        self.assert_tells(self.PLAN, [(("mark", 5), []), (("mark", 500), [])])

    def test_by_end_then_by_start_then_by_name(self):
        self.assert_tells(("pauses", 5, 100), [
            (("event", "b", 10, 1), []),
            (("event", "a", 10, 2), []),
            (("event", "", 10, 3), []),
            (("event", "B", 10, 4), []),
            (("event", "z", 7, 5), []),
            (("event", "z", 10, 6), []),
            (("event", "c", 8, 7), []),
            (("event", "a", 3, 8), []),
            (("event", "b", 20, 9), []),
            (("mark", 24), [
                ("told", "a", 3, 8, 1, 8),
                ("told", "c", 8, 13, 1, 7),
                ("told", "z", 7, 15, 2, 11),
                ("told", "", 10, 15, 1, 3),
                ("told", "B", 10, 15, 1, 4),
                ("told", "a", 10, 15, 1, 2),
                ("told", "b", 10, 15, 1, 1),
            ]),
            (("mark", 25), [("told", "b", 20, 25, 1, 9)]),
        ])

    def test_ends_go_ahead_of_names_and_of_starts(self):
        self.assert_tells(("fixed", 10, 0), [
            (("event", "a", 15, 1), []),
            (("event", "b", 5, 1), []),
            (("event", "a", 5, 1), []),
            (("mark", 20), [("told", "a", 0, 10, 1, 1), ("told", "b", 0, 10, 1, 1), ("told", "a", 10, 20, 1, 1)]),
        ])
        self.assert_tells(("pauses", 5, 0), [
            (("event", "a", 0, 1), []),
            (("event", "a", 4, 1), []),
            (("event", "b", 1, 1), []),
            (("mark", 50), [("told", "b", 1, 6, 1, 1), ("told", "a", 0, 9, 2, 2)]),
        ])

    def test_ends_are_ordered_as_numbers(self):
        self.assert_tells(("fixed", 1, 0), [
            (("event", "a", 99, 1), []),
            (("event", "a", 8, 1), []),
            (("event", "a", -100, 1), []),
            (("event", "a", -9, 1), []),
            (("mark", 100), [("told", "a", -100, -99, 1, 1), ("told", "a", -9, -8, 1, 1),
                             ("told", "a", 8, 9, 1, 1), ("told", "a", 99, 100, 1, 1)]),
        ])


class LateEvents(AnswersCase):
    def test_just_at_the_mark_less_the_grace_and_one_less(self):
        self.assert_tells(("fixed", 10, 3), [
            (("mark", 20), []),
            (("event", "a", 17, 1), [("told", "a", 10, 20, 1, 1)]),
            (("event", "a", 16, 2), [("missed", "a", 16, 2)]),
            (("event", "a", 17, 4), [("told", "a", 10, 20, 2, 5)]),
        ])

    def test_without_grace(self):
        self.assert_tells(("fixed", 10, 0), [
            (("event", "a", 14, 1), []),
            (("mark", 15), []),
            (("event", "a", 14, 2), [("missed", "a", 14, 2)]),
            (("event", "a", 15, 4), []),
            (("mark", 20), [("told", "a", 10, 20, 2, 5)]),
        ])

    def test_an_event_of_a_time_to_come(self):
        self.assert_tells(("fixed", 10, 3), [
            (("mark", 20), []),
            (("event", "a", 20, 1), []),
            (("event", "a", 500, 1), []),
            (("mark", 30), [("told", "a", 20, 30, 1, 1)]),
        ])

    def test_a_missed_event_tells_nothing_else_by_any_plan(self):
        for plan in (("fixed", 10, 3), ("sliding", 10, 5, 3), ("sliding", 1, 7, 3), ("pauses", 10, 3)):
            with self.subTest(plan=plan):
                self.assert_tells(plan, [
                    (("mark", 100), []),
                    (("event", "", 96, -1), [("missed", "", 96, -1)]),
                    (("event", "", 96, -1), [("missed", "", 96, -1)]),
                ])

    def test_a_told_window_is_put_right_at_once_for_its_name_alone(self):
        self.assert_tells(("fixed", 10, 5), [
            (("event", "a", 5, 1), []),
            (("event", "b", 5, 2), []),
            (("mark", 10), [("told", "a", 0, 10, 1, 1), ("told", "b", 0, 10, 1, 2)]),
            (("event", "a", 6, 4), [("told", "a", 0, 10, 2, 5)]),
            (("event", "a", 6, 0), [("told", "a", 0, 10, 3, 5)]),
            (("event", "c", 6, 9), [("told", "c", 0, 10, 1, 9)]),
        ])

    def test_sliding_windows_by_start_those_that_stood_already_too(self):
        self.assert_tells(("sliding", 10, 5, 10), [
            (("event", "a", 7, 1), []),
            (("mark", 15), [("told", "a", 0, 10, 1, 1), ("told", "a", 5, 15, 1, 1)]),
            (("event", "a", 12, 2), [("told", "a", 5, 15, 2, 3)]),
            (("event", "a", 5, 4), [("told", "a", 0, 10, 2, 5), ("told", "a", 5, 15, 3, 7)]),
            (("event", "b", 9, 8), [("told", "b", 0, 10, 1, 8), ("told", "b", 5, 15, 1, 8)]),
            (("mark", 20), [("told", "a", 10, 20, 1, 2)]),
            (("event", "a", 9, 8), [("missed", "a", 9, 8)]),
            (("event", "a", 10, 8), [("told", "a", 5, 15, 4, 15), ("told", "a", 10, 20, 2, 10)]),
        ])

    def test_a_step_greater_than_the_length(self):
        self.assert_tells(("sliding", 3, 10, 10), [
            (("event", "a", 3, 1), []),
            (("event", "a", 2, 2), []),
            (("mark", 3), [("told", "a", 0, 3, 1, 2)]),
            (("event", "a", -1, 4), []),
            (("event", "a", -7, 4), []),
            (("event", "a", -8, 4), [("missed", "a", -8, 4)]),
            (("mark", 13), []),
            (("event", "a", 3, 5), []),
            (("event", "a", 2, 5), [("missed", "a", 2, 5)]),
            (("event", "a", 12, 5), [("told", "a", 10, 13, 1, 5)]),
        ])

    def test_a_hundred_steps(self):
        early = [("told", "a", start, start + 100, 1, 7) for start in range(-99, -49)]
        late = [("told", "a", start, start + 100, 2, 9) for start in range(-98, -49)]
        rest = [("told", "a", start, start + 100, 2, 9) for start in range(-49, 1)] + [("told", "a", 1, 101, 1, 2)]
        self.assert_tells(("sliding", 100, 1, 50), [
            (("event", "a", 0, 7), []),
            (("mark", 50), early),
            (("event", "a", 1, 2), late),
            (("mark", 101), rest),
        ])


class Pauses(AnswersCase):
    PLAN = ("pauses", 10, 30)

    def test_an_event_within_a_told_window(self):
        self.assert_tells(self.PLAN, [
            (("event", "a", 0, 1), []),
            (("event", "a", 8, 2), []),
            (("mark", 18), [("told", "a", 0, 18, 2, 3)]),
            (("event", "a", 5, 4), [("told", "a", 0, 18, 3, 7)]),
            (("event", "a", 0, 8), [("told", "a", 0, 18, 4, 15)]),
            (("event", "a", 8, 16), [("told", "a", 0, 18, 5, 31)]),
        ])

    def test_a_told_window_that_is_lengthened_and_still_closed(self):
        self.assert_tells(self.PLAN, [
            (("event", "a", 0, 1), []),
            (("mark", 15), [("told", "a", 0, 10, 1, 1)]),
            (("event", "a", 5, 2), [("gone", "a", 0, 10), ("told", "a", 0, 15, 2, 3)]),
        ])

    def test_a_told_window_that_is_lengthened_beyond_the_mark(self):
        self.assert_tells(self.PLAN, [
            (("event", "a", 0, 1), []),
            (("mark", 14), [("told", "a", 0, 10, 1, 1)]),
            (("event", "a", 5, 2), [("gone", "a", 0, 10)]),
            (("event", "a", 4, 4), []),
            (("mark", 15), [("told", "a", 0, 15, 3, 7)]),
        ])

    def test_a_told_window_that_begins_sooner(self):
        self.assert_tells(self.PLAN, [
            (("event", "a", 0, 1), []),
            (("mark", 15), [("told", "a", 0, 10, 1, 1)]),
            (("event", "a", -9, 2), [("gone", "a", 0, 10), ("told", "a", -9, 10, 2, 3)]),
            (("event", "a", -10, 4), [("gone", "a", -9, 10), ("told", "a", -10, 10, 3, 7)]),
        ])

    def test_just_the_length_away_makes_a_window_of_its_own(self):
        self.assert_tells(self.PLAN, [
            (("event", "a", 0, 1), []),
            (("mark", 20), [("told", "a", 0, 10, 1, 1)]),
            (("event", "a", 10, 2), [("told", "a", 10, 20, 1, 2)]),
            (("event", "a", -10, 4), [("told", "a", -10, 0, 1, 4)]),
        ])

    def test_two_told_windows_are_joined(self):
        self.assert_tells(self.PLAN, [
            (("event", "a", 18, 1), []),
            (("event", "a", 0, 2), []),
            (("mark", 28), [("told", "a", 0, 10, 1, 2), ("told", "a", 18, 28, 1, 1)]),
            (("event", "a", 9, 4), [("gone", "a", 0, 10), ("gone", "a", 18, 28), ("told", "a", 0, 28, 3, 7)]),
        ])

    def test_a_told_window_is_joined_to_one_that_is_not_closed(self):
        self.assert_tells(self.PLAN, [
            (("event", "a", 18, 1), []),
            (("event", "a", 0, 2), []),
            (("mark", 27), [("told", "a", 0, 10, 1, 2)]),
            (("event", "a", 9, 4), [("gone", "a", 0, 10)]),
            (("mark", 28), [("told", "a", 0, 28, 3, 7)]),
        ])

    def test_two_windows_that_are_not_closed_are_joined(self):
        self.assert_tells(self.PLAN, [
            (("event", "a", 18, 1), []),
            (("event", "a", 0, 2), []),
            (("mark", 9), []),
            (("event", "a", 9, 4), []),
            (("mark", 27), []),
            (("mark", 28), [("told", "a", 0, 28, 3, 7)]),
        ])

    def test_gone_ones_in_the_order_of_their_starts(self):
        self.assert_tells(self.PLAN, [
            (("event", "a", 9, 1), []),
            (("event", "a", -9, 2), []),
            (("mark", 19), [("told", "a", -9, 1, 1, 2), ("told", "a", 9, 19, 1, 1)]),
            (("event", "a", 0, 4), [("gone", "a", -9, 1), ("gone", "a", 9, 19), ("told", "a", -9, 19, 3, 7)]),
        ])

    def test_other_names_stay(self):
        self.assert_tells(self.PLAN, [
            (("event", "a", 0, 1), []),
            (("event", "b", 0, 2), []),
            (("mark", 15), [("told", "a", 0, 10, 1, 1), ("told", "b", 0, 10, 1, 2)]),
            (("event", "b", 5, 4), [("gone", "b", 0, 10), ("told", "b", 0, 15, 2, 6)]),
            (("event", "", 5, 8), [("told", "", 5, 15, 1, 8)]),
        ])

    def test_a_missed_event_joins_nothing(self):
        self.assert_tells(("pauses", 10, 15), [
            (("event", "a", 18, 1), []),
            (("event", "a", 0, 2), []),
            (("mark", 25), [("told", "a", 0, 10, 1, 2)]),
            (("event", "a", 9, 4), [("missed", "a", 9, 4)]),
            (("event", "a", 10, 8), []),
            (("mark", 28), [("told", "a", 10, 28, 2, 9)]),
        ])

    def test_an_event_at_the_end_of_a_window_that_is_kept_no_more(self):
        self.assert_tells(("pauses", 10, 5), [
            (("event", "a", 0, 1), []),
            (("mark", 15), [("told", "a", 0, 10, 1, 1)]),
            (("event", "a", 10, 2), []),
            (("event", "a", 9, 4), [("missed", "a", 9, 4)]),
            (("mark", 20), [("told", "a", 10, 20, 1, 2)]),
        ])

    def test_a_window_may_go_and_come_again_and_again(self):
        self.assert_tells(("pauses", 3, 100), [
            (("event", "a", 0, 1), []),
            (("mark", 5), [("told", "a", 0, 3, 1, 1)]),
            (("event", "a", 2, 1), [("gone", "a", 0, 3), ("told", "a", 0, 5, 2, 2)]),
            (("event", "a", 4, 1), [("gone", "a", 0, 5)]),
            (("mark", 7), [("told", "a", 0, 7, 3, 3)]),
            (("event", "a", 6, 1), [("gone", "a", 0, 7)]),
            (("event", "a", 9, 1), []),
            (("mark", 12), [("told", "a", 0, 9, 4, 4), ("told", "a", 9, 12, 1, 1)]),
            (("event", "a", 8, 1), [("gone", "a", 0, 9), ("gone", "a", 9, 12), ("told", "a", 0, 12, 6, 6)]),
        ])


class GreatNumbers(AnswersCase):
    def test_a_hundred_figures_and_below_nought(self):
        self.assert_tells(("fixed", HUGE, HUGE), [
            (("event", "a", -HUGE, -HUGE), []),
            (("event", "a", -1, -HUGE), []),
            (("mark", -1), []),
            (("mark", 0), [("told", "a", -HUGE, 0, 2, -2 * HUGE)]),
            (("event", "a", -HUGE, HUGE), [("told", "a", -HUGE, 0, 3, -HUGE)]),
            (("event", "a", -HUGE - 1, HUGE), [("missed", "a", -HUGE - 1, HUGE)]),
            (("event", "a", HUGE, HUGE), []),
            (("mark", 2 * HUGE), [("told", "a", HUGE, 2 * HUGE, 1, HUGE)]),
            (("event", "a", HUGE - 1, HUGE), [("missed", "a", HUGE - 1, HUGE)]),
        ])

    def test_pauses_of_a_hundred_figures(self):
        self.assert_tells(("pauses", HUGE, 3 * HUGE), [
            (("event", "a", -HUGE, 1), []),
            (("event", "a", 0, 2), []),
            (("mark", HUGE), [("told", "a", -HUGE, 0, 1, 1), ("told", "a", 0, HUGE, 1, 2)]),
            (("event", "a", -1, 4), [("gone", "a", -HUGE, 0), ("gone", "a", 0, HUGE),
                                     ("told", "a", -HUGE, HUGE, 3, 7)]),
        ])


if __name__ == "__main__":
    unittest.main()
