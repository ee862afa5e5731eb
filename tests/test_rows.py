import unittest

from weirgauge.rows import grace_of, kind_of, length_of, step_of


class PartsOfAPlan(unittest.TestCase):
    def test_fixed(self):
        plan = ("fixed", 10, 3)
        self.assertEqual(kind_of(plan), "fixed")
        self.assertEqual(length_of(plan), 10)
        self.assertEqual(step_of(plan), 10)
        self.assertEqual(grace_of(plan), 3)

    def test_sliding(self):
        plan = ("sliding", 10, 5, 0)
        self.assertEqual(kind_of(plan), "sliding")
        self.assertEqual(length_of(plan), 10)
        self.assertEqual(step_of(plan), 5)
        self.assertEqual(grace_of(plan), 0)

    def test_pauses(self):
        plan = ("pauses", 7, 2)
        self.assertEqual(kind_of(plan), "pauses")
        self.assertEqual(length_of(plan), 7)
        self.assertEqual(grace_of(plan), 2)


if __name__ == "__main__":
    unittest.main()
