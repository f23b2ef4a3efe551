"""The examples of the document hold, word for word, and so do those of README.md."""

import importlib
import pathlib
import unittest

import hookstrips.errors
from hookstrips.diagonal.bounds import Bounds
from hookstrips.kinds.gaps import Kind
from hookstrips.shape.boxes import Box
from hookstrips.shape.gauss import gaussian
from hookstrips.walled.walks import Strip
from tests.examples import TEXTS

# What most examples use, and names of modules ahead of that of an example.
SHARED = {
    "FOUR": Box(4, 4), "FIVE": Bounds(5, 2, 1, 1), "SEVEN": Bounds(7, 3, 2, 2),
    "PAIR": Kind(2, 2), "TRIPLE": Kind(3, 2),
    "Box": Box, "Bounds": Bounds, "Strip": Strip, "Kind": Kind, "gaussian": gaussian,
}
ERRORS = vars(hookstrips.errors)


def pairs_of(text):
    """The pairs of what is written behind >>> and of the line told of it, None for a statement."""
    pairs = []
    for line in text.strip().split("\n"):
        if line.startswith(">>> "):
            pairs.append((line.removeprefix(">>> "), None))
        else:
            pairs[-1] = (pairs[-1][0], line)
    return pairs


class Examples(unittest.TestCase):
    def test_results(self):
        for path, text in TEXTS.items():
            names = SHARED | vars(importlib.import_module(path))
            for asked, told in pairs_of(text):
                with self.subTest(asked=asked):
                    if told is None:
                        exec(asked, names)
                    elif told.startswith("raises "):
                        self.raises_as_told(asked, told.removeprefix("raises "), names)
                    else:
                        self.assertEqual(repr(eval(asked, names)), told)

    def raises_as_told(self, asked, told, names):
        name = told.partition("(")[0]
        with self.assertRaises(ERRORS[name]) as caught:
            eval(asked, names)
        self.assertIs(type(caught.exception), ERRORS[name])
        if told != name:
            self.assertEqual(vars(caught.exception), vars(eval(told, dict(ERRORS))))

    def test_number_of_examples(self):
        many = [len(pairs_of(text)) for text in TEXTS.values()]
        self.assertEqual(many, [4, 5, 4, 4, 4, 5, 4, 6, 5, 5, 6, 4, 4, 4, 4, 4, 5, 5, 5])

    def test_readme(self):
        text = pathlib.Path(__file__).parent.with_name("README.md").read_text(encoding="ascii")
        pairs = [pair for block in text.split("```")[1::2] if ">>> " in block for pair in pairs_of(block)]
        self.assertGreater(len(pairs), 20)
        names = {}
        for asked, told in pairs:
            with self.subTest(asked=asked):
                if told is None:
                    exec(asked, names)
                else:
                    self.assertEqual(repr(eval(asked, names)), told)


if __name__ == "__main__":
    unittest.main()
