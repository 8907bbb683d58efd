"""Every example of the document, as it stands there, in examples.txt."""

import importlib
import os
import re
import unittest

from helpers import HERE
from sevenasone import errors

NAMES = {name: value for name, value in vars(errors).items() if not name.startswith("_")}


def sections():
    """The pairs of a module's name and the lines of its examples."""
    found = []
    with open(os.path.join(HERE, "examples.txt")) as file:
        for line in file.read().splitlines():
            heading = re.fullmatch(r"# (sevenasone)/(\w+)\.py", line)
            if heading:
                found.append((".".join(heading.groups()), []))
            elif line:
                found[-1][1].append(line)
    return found


def examples(lines):
    """The pairs of what is entered and what is told behind it, None for nothing."""
    found = []
    for line in lines:
        if line.startswith(">>> "):
            found.append([line[4:], None])
        else:
            found[-1][1] = line
    return found


def outcome(source, names):
    """What comes of the source: a value as it is written, an error with its fields, or nothing."""
    try:
        code = compile(source, "example", "eval")
    except SyntaxError:
        exec(source, names)
        return None
    try:
        return repr(eval(code, names))
    except errors.TreeError as error:
        return (type(error), list(vars(error).values()))


def wanted(told, names):
    if told is None:
        return None
    if told.startswith("raises "):
        error = eval(told[len("raises "):], names)
        return (type(error), list(vars(error).values()))
    return repr(eval(told, names))


class Examples(unittest.TestCase):
    def test_all(self):
        names = dict(NAMES)
        asked = 0
        for module, lines in sections():
            public = vars(importlib.import_module(module)).items()
            names.update({name: value for name, value in public if not name.startswith("_")})
            for source, told in examples(lines):
                with self.subTest(module=module, source=source):
                    self.assertEqual(outcome(source, names), wanted(told, names))
                    asked += told is not None
        self.assertGreater(asked, 0)


if __name__ == "__main__":
    unittest.main()
