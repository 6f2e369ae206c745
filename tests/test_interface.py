"""Every name of the interface stands in its file, with its arguments."""

import importlib
import inspect
import unittest

FUNCTIONS = {
    "gromatic.ratios": {
        "ratio": "(over, under)", "plus": "(one, other)", "minus": "(one, other)", "times": "(one, other)",
        "divided": "(one, other)", "order": "(one, other)", "size": "(one)", "floor": "(one)", "nearest": "(one)",
    },
}
CLASSES = {
    ("gromatic.survey", "Survey"): {
        "__init__": "(self, marks, readings)", "marks": "(self)", "readings": "(self)", "names": "(self)",
        "hangs": "(self, name)", "pieces": "(self)", "loose": "(self)",
    },
}


class Interface(unittest.TestCase):
    def test_functions(self):
        for module, names in FUNCTIONS.items():
            for name, arguments in names.items():
                told = getattr(importlib.import_module(module), name)
                self.assertEqual(told.__module__, module)
                self.assertEqual(str(inspect.signature(told)), arguments, name)

    def test_methods_stand_in_the_class_itself(self):
        for (module, name), methods in CLASSES.items():
            told = getattr(importlib.import_module(module), name)
            self.assertEqual(told.__module__, module)
            for method, arguments in methods.items():
                self.assertIn(method, vars(told))
                self.assertEqual(str(inspect.signature(vars(told)[method])), arguments, method)


if __name__ == "__main__":
    unittest.main()
