"""Every example of the document's sections that have landed, word by word."""

import os
import unittest

from interface import functions, module_named


def read_examples():
    """The pairs (source, what is told of it) in order."""
    path = os.path.join(os.path.dirname(os.path.abspath(__file__)), "examples.txt")
    with open(path, encoding="utf-8") as file:
        lines = file.read().splitlines()
    found = []
    for line in lines:
        if line.startswith(">>> "):
            found.append([line[4:], ""])
        elif line and not line.startswith("# "):
            found[-1][1] += line
    return found


class Examples(unittest.TestCase):
    def test_all_are_there(self):
        self.assertEqual(len(read_examples()), 179)

    def test_each_gives_what_is_told(self):
        names, errors = functions(), vars(module_named("errors"))
        names["Board"] = module_named("board").Board
        for source, told in read_examples():
            with self.subTest(source=source):
                if told == "":
                    exec(source, names)
                elif told.startswith("raises "):
                    wanted = eval(told[len("raises "):], dict(errors))
                    with self.assertRaises(type(wanted)) as caught:
                        eval(source, names)
                    self.assertIs(type(caught.exception), type(wanted))
                    self.assertEqual(vars(caught.exception), vars(wanted))
                else:
                    self.assertEqual(repr(eval(source, names)), repr(eval(told)))


if __name__ == "__main__":
    unittest.main()
