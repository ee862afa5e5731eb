"""Points 1 and 2 over the functions of story: refused plans, and that nothing handed in is changed."""

import copy
import unittest

from weirgauge.errors import BadPlan
from weirgauge.story import answers, in_order, kept_after, missed, standing

HUGE = 10 ** 100 - 1

BAD_PLANS = (
    ("fixed", 0, 0),
    ("fixed", -1, 0),
    ("fixed", 1, -1),
    ("fixed", -HUGE, HUGE),
    ("sliding", 0, 1, 0),
    ("sliding", 1, 0, 0),
    ("sliding", 1, -1, 0),
    ("sliding", 1, 1, -1),
    ("sliding", 101, 1, 0),
    ("sliding", 701, 7, 3),
    ("sliding", HUGE, 1, 0),
    ("pauses", 0, 0),
    ("pauses", -1, 0),
    ("pauses", 1, -1),
    ("pauses", HUGE, -HUGE),
)

GOOD_PLANS = (("fixed", 10, 3), ("sliding", 10, 5, 3), ("sliding", 100, 1, 3), ("sliding", 3, 10, 3), ("pauses", 7, 3))

DEEDS = [("event", "b", 5, 1), ("event", "a", 5, 2), ("mark", 12), ("event", "a", 9, 3), ("event", "a", 3, 4),
         ("mark", 9), ("event", "", 16, -5), ("mark", 30), ("event", "b", 29, 6), ("mark", 40)]

EVENTS = [("b", 5, 1), ("a", 9, 2), ("", -4, -5), ("a", 3, 4), ("a", 3, 4), ("b", 29, 6)]

CALLS = ((answers, DEEDS), (standing, DEEDS), (kept_after, DEEDS), (missed, DEEDS), (in_order, EVENTS))


class RefusedPlans(unittest.TestCase):
    def assert_refused(self, called, plan, handed):
        with self.subTest(called=called.__name__, plan=plan, handed=handed):
            with self.assertRaises(ValueError) as caught:
                called(plan, handed)
            self.assertIs(type(caught.exception), BadPlan)

    def test_by_each_function(self):
        for called, handed in CALLS:
            for plan in BAD_PLANS:
                self.assert_refused(called, plan, handed)

    def test_even_with_an_empty_list(self):
        for called, handed in CALLS:
            for plan in BAD_PLANS:
                self.assert_refused(called, plan, [])

    def test_even_with_marks_alone(self):
        for called, handed in CALLS[:4]:
            for plan in BAD_PLANS:
                self.assert_refused(called, plan, [("mark", 1)])

    def test_plans_at_the_edges_are_not_refused(self):
        for plan in (("fixed", 1, 0), ("sliding", 1, 1, 0), ("sliding", 100, 1, 0), ("sliding", 700, 7, 0),
                     ("sliding", 1, HUGE, HUGE), ("pauses", 1, 0), ("fixed", 101, 1), ("pauses", 101, 1)):
            for called, handed in CALLS:
                with self.subTest(called=called.__name__, plan=plan):
                    self.assertIs(type(called(plan, handed)), list)
                    self.assertEqual(called(plan, []), [])


class NothingHandedInIsChanged(unittest.TestCase):
    def test_the_lists_are_as_they_were(self):
        for called, handed in CALLS:
            for plan in GOOD_PLANS + BAD_PLANS:
                with self.subTest(called=called.__name__, plan=plan):
                    ahead = copy.deepcopy(handed)
                    plan_ahead = copy.deepcopy(plan)
                    try:
                        called(plan, handed)
                    except BadPlan:
                        self.assertIn(plan, BAD_PLANS)
                    self.assertEqual(handed, ahead)
                    self.assertEqual(plan, plan_ahead)

    def test_an_answer_is_a_new_list_every_time(self):
        for called, handed in CALLS:
            for plan in GOOD_PLANS:
                with self.subTest(called=called.__name__, plan=plan):
                    first = called(plan, handed)
                    wanted = copy.deepcopy(first)
                    self.assertIsNot(first, handed)
                    for part in first:
                        if isinstance(part, list):
                            part.append("changed")
                    first.append("changed")
                    self.assertEqual(called(plan, handed), wanted)

    def test_no_call_hangs_on_one_ahead_of_it(self):
        for plan in GOOD_PLANS:
            for called, handed in CALLS:
                with self.subTest(called=called.__name__, plan=plan):
                    wanted = called(plan, handed)
                    for other, other_handed in CALLS:
                        other(("fixed", 2, 50), other_handed)
                    self.assertEqual(called(plan, handed), wanted)
                    self.assertEqual(called(plan, []), [])


if __name__ == "__main__":
    unittest.main()
