"""The interface: the calls' names and arguments as the document has them, and nothing printed by them."""

import contextlib
import inspect
import io
import unittest

from gridwave import both

ARGUMENTS = {
    "filter_of": ["kind", "edge", "x", "c"],
    "back": ["kind", "c", "state", "x"],
    "rate": ["kind", "up", "down", "c", "x"],
    "alike": ["kind", "lags", "x", "y"],
    "median": ["kind", "edge", "r", "x"],
    "peaks": ["kind", "x"],
    "window": ["kind", "sort", "n"],
    "sums": ["w", "h", "x"],
    "box": ["w", "h", "r", "x"],
    "square": ["w", "h", "m", "shift", "add", "k", "x"],
    "shape": ["w", "h", "op", "rx", "ry", "x"],
    "middle": ["w", "h", "x"],
    "edges": ["w", "h", "x"],
    "scale": ["w", "h", "v", "u", "x"],
    "match": ["w", "h", "v", "u", "x", "y"],
}

CALLS = (
    ("filter_of", (9, 0, [1, 2], [3])),
    ("back", (9, [1, 2, 3, 4, 5], [6, 7], [8, 9])),
    ("rate", (9, 2, 1, [1, 2], [3])),
    ("alike", (9, 2, [1, 2], [3, 4])),
    ("median", (1, 0, 1, [1, 2, 3])),
    ("peaks", (1, [1, 2, 1])),
    ("window", (9, 0, 3)),
    ("sums", (2, 1, [1, 2])),
    ("box", (2, 1, 1, [1, 2])),
    ("square", (2, 1, 1, 0, 0, [1], [1, 2])),
    ("shape", (2, 1, 0, 1, 1, [1, 2])),
    ("middle", (2, 1, [1, 2])),
    ("edges", (2, 1, [1, 2])),
    ("scale", (2, 1, 1, 2, [1, 2])),
    ("match", (2, 1, 1, 1, [1, 2], [2])),
)


class Interface(unittest.TestCase):
    def test_names_and_arguments(self):
        for name in ARGUMENTS:
            with self.subTest(name=name):
                self.assertEqual(list(inspect.signature(getattr(both, name)).parameters), ARGUMENTS[name])

    def test_a_list_of_whole_numbers_and_nothing_printed(self):
        self.assertEqual([name for name, _ in CALLS], list(ARGUMENTS))
        for name, handed in CALLS:
            printed = io.StringIO()
            with self.subTest(name=name), contextlib.redirect_stdout(printed):
                answer = getattr(both, name)(*handed)
                self.assertIs(type(answer), list)
                self.assertTrue(all(type(number) is int for number in answer))
                self.assertNotEqual(answer, [-1])
            self.assertEqual(printed.getvalue(), "")


if __name__ == "__main__":
    unittest.main()
