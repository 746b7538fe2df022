"""The names, the arguments and the kind of what is given back, as the document tells them."""

import ast
import inspect
import pathlib
import unittest

import neverback
import neverback.walks
from answers import same_answer

ARGUMENTS = {
    "is_true": ["kind", "steps"],
    "end": ["kind", "steps"],
    "next_walk": ["kind", "steps"],
    "count": ["kind", "n"],
    "rings": ["kind", "n"],
    "bridges": ["n"],
    "spread": ["n"],
    "turn": ["at", "turn", "steps"],
}

# A call by the arguments' names, and what is given back.
ANSWERS = (
    ("is_true", {"kind": 1, "steps": [4, 5]}, [1]),
    ("is_true", {"kind": 0, "steps": [0, 2]}, [0]),
    ("end", {"kind": 1, "steps": [4, 5]}, [0, 1, -2]),
    ("next_walk", {"kind": 1, "steps": [4, 5]}, [0, 5, 0]),
    ("count", {"kind": 1, "n": 2}, [0, 30]),
    ("rings", {"kind": 1, "n": 3}, [0, 12]),
    ("rings", {"kind": 0, "n": 3}, [0, 0]),
    ("bridges", {"n": 2}, [0, 3]),
    ("spread", {"n": 2}, [0, 32]),
    ("turn", {"at": 1, "turn": 4, "steps": [0, 1, 1]}, [1, 0, 3, 3]),
    ("turn", {"at": 1, "turn": 1, "steps": [0, 1, 1]}, [0, 0, 2, 2]),
)

REFUSALS = (
    ("is_true", {"kind": 3, "steps": []}, -2),
    ("is_true", {"kind": 2, "steps": [3]}, -3),
    ("end", {"kind": 3, "steps": []}, -2),
    ("end", {"kind": 2, "steps": [3]}, -3),
    ("next_walk", {"kind": 3, "steps": []}, -2),
    ("next_walk", {"kind": 2, "steps": [3]}, -3),
    ("next_walk", {"kind": 2, "steps": [2]}, -5),
    ("count", {"kind": 2, "n": 17}, -2),
    ("rings", {"kind": 2, "n": 17}, -2),
    ("bridges", {"n": 17}, -2),
    ("spread", {"n": 17}, -2),
    ("turn", {"at": 1, "turn": 0, "steps": [0]}, -2),
    ("turn", {"at": 0, "turn": 0, "steps": [4]}, -3),
    ("turn", {"at": 0, "turn": 0, "steps": [0, 2]}, -3),
)


def package_files():
    return sorted(pathlib.Path(neverback.__file__).parent.glob("**/*.py"))


class Interface(unittest.TestCase):
    def call(self, name, arguments):
        return getattr(neverback.walks, name)(**arguments)

    def test_names_and_arguments(self):
        for name, wanted in ARGUMENTS.items():
            with self.subTest(name=name):
                function = getattr(neverback.walks, name)
                self.assertTrue(inspect.isfunction(function))
                parameters = inspect.signature(function).parameters.values()
                self.assertEqual([parameter.name for parameter in parameters], wanted)
                for parameter in parameters:
                    # By place or by name, and none that may be left out.
                    self.assertIs(parameter.kind, inspect.Parameter.POSITIONAL_OR_KEYWORD)
                    self.assertIs(parameter.default, inspect.Parameter.empty)

    def test_answers(self):
        for name, arguments, wanted in ANSWERS:
            with self.subTest(name=name, arguments=arguments):
                same_answer(self, self.call(name, arguments), wanted)
                same_answer(self, getattr(neverback.walks, name)(*arguments.values()), wanted)

    def test_a_refusal_is_a_list_of_one_number(self):
        for name, arguments, number in REFUSALS:
            with self.subTest(name=name, arguments=arguments):
                same_answer(self, self.call(name, arguments), [number])

    def test_every_function_is_held(self):
        for rows in (ANSWERS, REFUSALS):
            self.assertEqual({name for name, arguments, wanted in rows}, set(ARGUMENTS))

    def test_nothing_is_imported(self):
        self.assertNotEqual(package_files(), [])
        for path in package_files():
            for node in ast.walk(ast.parse(path.read_text(encoding="utf-8"))):
                self.assertNotIsInstance(node, (ast.Import, ast.ImportFrom), path.name)


if __name__ == "__main__":
    unittest.main()
