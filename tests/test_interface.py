"""All that the document names is there, with the arguments that stand there."""

import importlib
import inspect
import unittest

INTERFACE = {
    "parts": {"names_of": ["term"], "has_outer": ["term"]},
    "filling": {"lifted": ["term", "by"], "filled": ["body", "term"], "exchanged": ["term", "word", "other"]},
    "steps": {"spots": ["term"], "step": ["term", "path"], "led": ["term", "fuel"]},
    "atonce": {
        "walked": ["term", "paths"], "at_once": ["term", "paths"], "left_of": ["term", "paths", "done"],
        "all_at_once": ["term"],
    },
    "together": {"come_together": ["term", "first", "second"]},
    "naming": {
        "numbered": ["term"], "named": ["term"], "alike": ["one", "other"], "put": ["term", "word", "other"],
    },
    "notes": {"shown": ["term"], "read": ["line"]},
}


class Interface(unittest.TestCase):
    def test_functions_and_their_arguments(self):
        for module, functions in INTERFACE.items():
            there = importlib.import_module("namecall." + module)
            for function, arguments in functions.items():
                asked = inspect.signature(getattr(there, function)).parameters
                self.assertEqual(list(asked), arguments, function)
                for argument in asked.values():
                    self.assertIs(argument.default, inspect.Parameter.empty, function)


if __name__ == "__main__":
    unittest.main()
