"""Point 14 and all that leads to it, for many drawn lists of deeds."""

import unittest

from weirgauge.story import answers, in_order, kept_after, missed, standing
from words import Story, drawer_for, drawn_deeds, drawn_plan, events_not_missed, replayed

FAR = 10 ** 99


def drawn_case(seed, most=30):
    drawer = drawer_for(seed)
    scale = drawer.choice((1, 1, 1, 10 ** 97))
    shift = drawer.choice((0, 0, FAR, -FAR))
    plan = drawn_plan(drawer, scale)
    return plan, drawn_deeds(drawer, drawer.randint(0, most), names=drawer.choice((1, 2, 3)), scale=scale, shift=shift)


class DrawnStories(unittest.TestCase):
    def assert_just_what_point_14_says(self, plan, deeds, rows):
        events, held = events_not_missed(plan, deeds)
        wanted = [] if held is None else [window for window in in_order(plan, events) if window[2] <= held]
        self.assertEqual(rows, wanted)

    def test_behind_every_deed_what_stands_is_what_the_events_give(self):
        for seed in range(300):
            plan, deeds = drawn_case(seed)
            with self.subTest(seed=seed, plan=plan):
                told = answers(plan, deeds)
                self.assertEqual(len(told), len(deeds))
                for many in range(len(deeds) + 1):
                    self.assert_just_what_point_14_says(plan, deeds[:many], standing(plan, deeds[:many]))
                    self.assert_just_what_point_14_says(plan, deeds[:many], replayed(told[:many]))

    def test_all_answers_by_the_words_of_the_points(self):
        for seed in range(1000, 1600):
            plan, deeds = drawn_case(seed)
            with self.subTest(seed=seed, plan=plan):
                story = Story(plan)
                self.assertEqual(answers(plan, deeds), [story.do(deed) for deed in deeds])
                self.assertEqual(standing(plan, deeds), story.standing())
                self.assertEqual(kept_after(plan, deeds), story.kept())
                self.assertEqual(missed(plan, deeds), story.missed)

    def test_what_deeds_tell_does_not_hang_on_those_that_follow(self):
        for seed in range(2000, 2060):
            plan, deeds = drawn_case(seed)
            with self.subTest(seed=seed, plan=plan):
                told = answers(plan, deeds)
                for many in range(len(deeds) + 1):
                    self.assertEqual(answers(plan, deeds[:many]), told[:many])

    def test_in_whatever_order_the_events_came(self):
        for seed in range(3000, 3100):
            plan, deeds = drawn_case(seed)
            drawer = drawer_for(seed)
            events = [deed for deed in deeds if deed[0] == "event"]
            marks = [deed for deed in deeds if deed[0] == "mark"]
            with self.subTest(seed=seed, plan=plan):
                wanted = standing(plan, events + marks)
                drawer.shuffle(events)
                self.assertEqual(standing(plan, events + marks), wanted)
                self.assertEqual(kept_after(plan, events + marks), kept_after(plan, sorted(events) + marks))

    def test_no_event_that_is_not_too_late_changes_a_window_that_is_not_kept(self):
        for seed in range(4000, 4100):
            plan, deeds = drawn_case(seed)
            with self.subTest(seed=seed, plan=plan):
                told = answers(plan, deeds)
                for many, tells in enumerate(told):
                    if deeds[many][0] == "event":
                        kept = {row[:3] for row in kept_after(plan, deeds[:many])}
                        behind = {row[:3] for row in kept_after(plan, deeds[:many + 1])}
                        for tell in tells:
                            if tell[0] != "missed":
                                self.assertIn(tell[1:4], kept if tell[0] == "gone" else behind)

    def test_a_hundred_and_fifty_deeds_and_somewhat_more_of_ten_names(self):
        plans = (("fixed", 10, 3), ("sliding", 100, 1, 20), ("sliding", 700, 7, 20), ("sliding", 3, 10, 9),
                 ("pauses", 4, 12), ("pauses", 4, 0))
        for plan in plans:
            with self.subTest(plan=plan):
                deeds = drawn_deeds(drawer_for(str(plan)), 170, names=10)
                told = answers(plan, deeds)
                self.assertEqual(standing(plan, deeds), replayed(told))
                for many in (0, 1, 60, 120, 150, 170):
                    self.assert_just_what_point_14_says(plan, deeds[:many], replayed(told[:many]))
                story = Story(plan)
                for deed in deeds[:40]:
                    self.assertEqual(told.pop(0), story.do(deed))

    def test_the_drawn_lists_hold_all_that_can_be_told(self):
        seen = set()
        for seed in range(100):
            plan, deeds = drawn_case(seed)
            for tells in answers(plan, deeds):
                seen.add(tuple(tell[0] for tell in tells[:3]))
        for wanted in ((), ("missed",), ("told",), ("told", "told"), ("gone",), ("gone", "told"),
                       ("gone", "gone", "told")):
            self.assertIn(wanted, seen)


if __name__ == "__main__":
    unittest.main()
