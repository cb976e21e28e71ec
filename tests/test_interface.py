# The names and arguments of the document's interface, as they stand there.
import importlib
import inspect
import unittest

INTERFACE = {
    "walks": {"checked": "walk", "after": "walk start steps"},
    "coming": {"chances": "walk goals", "waits": "walk goals"},
    "longrun": {"ends": "walk", "long_run": "walk start", "beat": "walk start"},
    "like": {"likeness": "walk marks", "put_together": "walk marks"},
    "choices": {"checked_choice": "choice", "picked": "choice picks", "most": "choice goals", "least": "choice goals"},
    "costs": {"least_costs": "choice costs goals"},
    "seen": {"chance_of": "walk begin marks seen", "where": "walk begin marks seen",
             "likeliest": "walk begin marks seen"},
    "texts": {"shown": "walk", "read": "text"},
}


class InterfaceTest(unittest.TestCase):
    def test_each_function_is_there_with_its_arguments(self):
        for module, functions in INTERFACE.items():
            for name, arguments in functions.items():
                with self.subTest(module=module, name=name):
                    function = getattr(importlib.import_module("lotwander." + module), name)
                    self.assertEqual(list(inspect.signature(function).parameters), arguments.split())
                    for argument in inspect.signature(function).parameters.values():
                        self.assertIs(argument.default, argument.empty)


if __name__ == "__main__":
    unittest.main()
