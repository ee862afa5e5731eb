import unittest

from weirgauge.errors import BadPlan, GaugeError, NoLine


class ErrorClasses(unittest.TestCase):
    def test_any_refusal_is_a_value_error(self):
        self.assertEqual(GaugeError.__bases__, (ValueError,))

    def test_both_refusals_stand_right_under_gauge_error(self):
        self.assertEqual(BadPlan.__bases__, (GaugeError,))
        self.assertEqual(NoLine.__bases__, (GaugeError,))

    def test_neither_refusal_stands_under_the_other(self):
        self.assertFalse(issubclass(BadPlan, NoLine))
        self.assertFalse(issubclass(NoLine, BadPlan))

    def test_each_is_taken_by_its_own_name_and_those_above(self):
        for made in (BadPlan, NoLine):
            for taken in (made, GaugeError, ValueError):
                with self.subTest(made=made, taken=taken):
                    with self.assertRaises(taken):
                        raise made("no")

    def test_neither_is_taken_by_the_name_of_the_other(self):
        for made, other in ((BadPlan, NoLine), (NoLine, BadPlan)):
            with self.subTest(made=made):
                with self.assertRaises(made):
                    try:
                        raise made("no")
                    except other:
                        pass


if __name__ == "__main__":
    unittest.main()
