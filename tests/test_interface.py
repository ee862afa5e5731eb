"""The interface: each name is there, in its file, with its arguments."""

import importlib
import inspect
import unittest

FUNCTIONS = {
    "plans": {"check_plan": ["plan"], "spans_at": ["plan", "time"]},
    "story": {"answers": ["plan", "deeds"], "standing": ["plan", "deeds"], "kept_after": ["plan", "deeds"],
              "missed": ["plan", "deeds"], "in_order": ["plan", "events"]},
    "lines": {"shown": ["deed"], "read": ["line"], "read_all": ["lines"], "read_plan": ["line"]},
}


class Interface(unittest.TestCase):
    def test_each_function_with_its_arguments(self):
        for stem, functions in FUNCTIONS.items():
            module = importlib.import_module("weirgauge." + stem)
            for name, arguments in functions.items():
                with self.subTest(module=stem, name=name):
                    function = getattr(module, name)
                    self.assertTrue(inspect.isfunction(function))
                    self.assertEqual(function.__module__, "weirgauge." + stem)
                    parameters = inspect.signature(function).parameters
                    self.assertEqual(list(parameters), arguments)
                    self.assertEqual({each.default for each in parameters.values()}, {inspect.Parameter.empty})

    def test_arguments_by_their_names(self):
        story = importlib.import_module("weirgauge.story")
        lines = importlib.import_module("weirgauge.lines")
        plan = ("fixed", 10, 3)
        deeds = [("event", "a", 5, 1), ("mark", 10)]
        self.assertEqual(story.answers(plan=plan, deeds=deeds), [[], [("told", "a", 0, 10, 1, 1)]])
        self.assertEqual(story.standing(plan=plan, deeds=deeds), [("a", 0, 10, 1, 1)])
        self.assertEqual(story.kept_after(plan=plan, deeds=deeds), [("a", 0, 10, 1, 1, True)])
        self.assertEqual(story.missed(plan=plan, deeds=deeds), [])
        self.assertEqual(story.in_order(plan=plan, events=[("a", 5, 1)]), [("a", 0, 10, 1, 1)])
        self.assertEqual(lines.shown(deed=("mark", 5)), "mark 5")
        self.assertEqual(lines.read(line="mark 5"), ("mark", 5))
        self.assertEqual(lines.read_all(lines=["mark 5"]), [("mark", 5)])
        self.assertEqual(lines.read_plan(line="fixed 10 3"), ("fixed", 10, 3))


if __name__ == "__main__":
    unittest.main()
