"""What the document promises over the whole program: every call by its name, and none that another one changes."""

import doctest
import inspect
import pathlib
import unittest

import flaglong.limbs
from tests.support import TOP

README = pathlib.Path(__file__).resolve().parent.parent / "README.md"

CALLS = {
    "add": "carry a b",
    "sub": "carry a b",
    "left": "carry a",
    "right": "carry a",
    "push": "k given a",
    "pull": "k given a",
    "turn": "carry k a",
    "mean": "a b",
    "times": "m given a",
    "over": "d r a",
    "decimal": "minus carry a b",
    "map_by": "p t",
}

# One call of each and its answer, and the refusals.
ANSWERS = (
    ("add", (1, [TOP, 1], [0, 2]), [0, 2, 0, 4]),
    ("sub", (1, [0, 4], [0, 2]), [0, 2, TOP, 1]),
    ("left", (1, [2 ** 63, 1]), [0, 2, 1, 3]),
    ("right", (1, [1, 3]), [1, 2, 2 ** 63, 2 ** 63 + 1]),
    ("push", (4, 18, [1, 2]), [0, 2, 18, 32]),
    ("pull", (4, 0, [18, 32]), [2, 2, 1, 2]),
    ("turn", (1, 1, [5]), [0, 1, 11]),
    ("mean", ([3], [4]), [1, 1, 3]),
    ("times", (3, 2, [5, 6]), [0, 2, 17, 18]),
    ("over", (3, 0, [17, 18]), [0, 2, 5, 6, 2]),
    ("over", (0, 0, [17]), [-3]),
    ("over", (3, 3, [17]), [-3]),
    ("decimal", (0, 1, [0x99, 0x10], [0x00, 0x09]), [0, 2, 0x00, 0x20]),
    ("decimal", (1, 1, [0x00, 0x20], [0x00, 0x09]), [0, 2, 0x99, 0x10]),
    ("decimal", (0, 0, [0x99, 0x10], [0x00, 0x0A]), [-2]),
    ("map_by", ([0, 255, 7], list(range(255, -1, -1))), [0, 3, 255, 0, 248]),
)


class InterfaceTest(unittest.TestCase):
    def test_every_call_is_there(self):
        for name, parameters in CALLS.items():
            call = getattr(flaglong.limbs, name)
            self.assertTrue(inspect.isfunction(call), name)
            self.assertEqual(" ".join(inspect.signature(call).parameters), parameters, name)

    def test_everything_is_handed_in(self):
        for name in CALLS:
            for parameter in inspect.signature(getattr(flaglong.limbs, name)).parameters.values():
                self.assertIs(parameter.kind, inspect.Parameter.POSITIONAL_OR_KEYWORD, name)
                self.assertIs(parameter.default, inspect.Parameter.empty, name)

    def test_answers_in_any_order(self):
        self.assertEqual({name for name, given, answer in ANSWERS}, set(CALLS))
        for start in range(len(ANSWERS)):
            for step in (1, 3, -1, 7):
                for which in range(len(ANSWERS)):
                    name, given, answer = ANSWERS[(start + which * step) % len(ANSWERS)]
                    self.assertEqual(getattr(flaglong.limbs, name)(*given), answer, name)

    def test_examples_of_the_readme(self):
        result = doctest.testfile(str(README), module_relative=False)
        self.assertGreater(result.attempted, len(CALLS))
        self.assertEqual(result.failed, 0)


if __name__ == "__main__":
    unittest.main()
