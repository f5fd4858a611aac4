"""The interface: each name in its module, with its arguments handed in by their places."""

import importlib
import inspect
import unittest

# Of each module its functions, with how many arguments each takes at least and at most.
FUNCTIONS = {
    "words": {"kind_of": (1, 1), "is_line": (1, 1), "words_of": (1, 1), "in_order": (1, 1)},
    "patterns": {
        "is_pattern": (1, 1), "fits": (2, 2), "fillings": (2, 2), "filled": (2, 2), "is_within": (2, 2),
        "joined": (1, 1), "met": (2, 2), "ordered": (1, 1)},
    "gathering": {"gathered": (1, 2)},
    "falling": {"looseness": (1, 1), "falls_under": (2, 2), "news": (1, 2)},
    "alike": {"parting_line": (2, 2), "without_needless": (1, 1)},
    "texts": {"show_pattern": (1, 1), "read_pattern": (1, 1)},
}

# Of each module its class, with what it is made of, and its methods.
CLASSES = {
    ("logs", "Log", (0, 1)): {
        "come": (2, 2), "put": (1, 1), "take": (1, 1), "patterns": (0, 0), "under": (1, 1), "counts": (2, 2),
        "holes": (1, 1), "back": (0, 0), "again": (0, 0), "moves": (0, 0)},
    ("desk", "Desk", (0, 0)): {"say": (1, 1)},
}


def module(name):
    return importlib.import_module(f"loggather.{name}")


class Interface(unittest.TestCase):
    def takes(self, function, least_and_most):
        kinds = [parameter.kind for parameter in inspect.signature(function).parameters.values()]
        needed = [parameter for parameter in inspect.signature(function).parameters.values()
                  if parameter.default is parameter.empty]
        self.assertEqual((len(needed), len(kinds)), least_and_most)
        self.assertEqual(set(kinds) - {inspect.Parameter.POSITIONAL_OR_KEYWORD}, set())

    def test_functions(self):
        for name, functions in FUNCTIONS.items():
            for function, many in functions.items():
                with self.subTest(module=name, function=function):
                    self.takes(getattr(module(name), function), many)

    def test_classes(self):
        for (name, title, many), methods in CLASSES.items():
            made = getattr(module(name), title)
            self.takes(made, many)
            for method, many_more in methods.items():
                with self.subTest(title=title, method=method):
                    self.takes(getattr(made(), method), many_more)

    def test_the_sieve_that_is_left_out(self):
        for function in (module("gathering").gathered, module("falling").news, module("logs").Log):
            sieve = list(inspect.signature(function).parameters.values())[-1]
            self.assertEqual((sieve.name, sieve.default), ("sieve", (3, 2)))


if __name__ == "__main__":
    unittest.main()
