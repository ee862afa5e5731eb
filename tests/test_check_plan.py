import unittest

from weirgauge.errors import BadPlan, GaugeError
from weirgauge.plans import check_plan

HUGE = 10 ** 100 - 1

PLANS_THAT_CAN_BE = (
    ("fixed", 10, 3),
    ("sliding", 10, 5, 0),
    ("pauses", 7, 2),
    ("fixed", 1, 0),
    ("sliding", 1, 1, 0),
    ("pauses", 1, 0),
    ("fixed", 1, 500),
    ("fixed", 500, 0),
    ("pauses", 500, 0),
    ("pauses", 1, 500),
    ("sliding", 1, 500, 0),
    ("sliding", 10, 3, 500),
)

PLANS_BELOW_AN_EDGE = (
    ("fixed", 0, 0),
    ("fixed", -1, 0),
    ("fixed", 1, -1),
    ("sliding", 0, 1, 0),
    ("sliding", -1, 1, 0),
    ("sliding", 1, 0, 0),
    ("sliding", 1, -1, 0),
    ("sliding", 1, 1, -1),
    ("pauses", 0, 0),
    ("pauses", -1, 0),
    ("pauses", 1, -1),
)


class CheckPlan(unittest.TestCase):
    def assert_can_be(self, plan):
        with self.subTest(plan=plan):
            self.assertIsNone(check_plan(plan))

    def assert_refused(self, plan):
        with self.subTest(plan=plan):
            with self.assertRaises(ValueError) as caught:
                check_plan(plan)
            self.assertIs(type(caught.exception), BadPlan)

    def test_plans_that_can_be(self):
        for plan in PLANS_THAT_CAN_BE:
            self.assert_can_be(plan)

    def test_each_refusal_alone(self):
        for plan in PLANS_BELOW_AN_EDGE:
            self.assert_refused(plan)

    def test_several_faults_at_once(self):
        for plan in (("fixed", 0, -1), ("sliding", 0, 0, -1), ("sliding", -5, -1, 0), ("pauses", -3, -3)):
            self.assert_refused(plan)

    def test_a_sliding_length_of_a_hundred_steps_and_of_one_more(self):
        for step in (1, 2, 3, 7, 100, 10 ** 98 - 1, HUGE):
            self.assert_can_be(("sliding", 100 * step - 1, step, 0))
            self.assert_can_be(("sliding", 100 * step, step, 0))
            self.assert_refused(("sliding", 100 * step + 1, step, 0))
            self.assert_refused(("sliding", 101 * step, step, 0))

    def test_the_grace_is_no_step(self):
        self.assert_can_be(("fixed", 101, 1))
        self.assert_can_be(("fixed", HUGE, 0))
        self.assert_can_be(("pauses", 101, 1))
        self.assert_can_be(("pauses", HUGE, 0))
        self.assert_can_be(("sliding", 100, 1, HUGE))
        self.assert_refused(("sliding", 101, 1, HUGE))

    def test_numbers_of_a_hundred_figures_and_somewhat_beyond(self):
        for huge in (HUGE, HUGE * 1000):
            self.assert_can_be(("fixed", huge, huge))
            self.assert_can_be(("sliding", huge, huge, huge))
            self.assert_can_be(("sliding", 1, huge, 0))
            self.assert_can_be(("pauses", huge, huge))
            self.assert_refused(("fixed", -huge, huge))
            self.assert_refused(("fixed", huge, -huge))
            self.assert_refused(("sliding", -huge, huge, huge))
            self.assert_refused(("sliding", huge, -huge, huge))
            self.assert_refused(("sliding", huge, huge, -huge))
            self.assert_refused(("sliding", huge, 1, 0))
            self.assert_refused(("pauses", -huge, huge))
            self.assert_refused(("pauses", huge, -huge))

    def test_a_refusal_is_taken_as_each_class_above_it(self):
        for taken in (BadPlan, GaugeError, ValueError):
            for plan in PLANS_BELOW_AN_EDGE + (("sliding", 101, 1, 0),):
                with self.subTest(taken=taken, plan=plan):
                    with self.assertRaises(taken) as caught:
                        check_plan(plan)
                    self.assertIsInstance(caught.exception, BadPlan)

    def test_the_same_answer_every_time(self):
        for plan in PLANS_THAT_CAN_BE:
            self.assert_can_be(plan)
            self.assert_refused(("sliding", 101, 1, 0))
            self.assert_can_be(plan)


if __name__ == "__main__":
    unittest.main()
