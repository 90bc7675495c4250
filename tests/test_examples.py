"""The examples of the document, word for word (tests/examples.txt)."""

import importlib
import pathlib
import unittest

from tests.support import A, B, C, R, S

LINES = (pathlib.Path(__file__).parent / "examples.txt").read_text(encoding="utf-8").splitlines()


def read_examples():
    """The list of the triples (module, expression or statement, what is shown, or None)."""
    found = []
    module = None
    for line in LINES:
        if line.startswith("## hoproads/"):
            module = line[len("## hoproads/"):-len(".py")]
        elif line.startswith("    >>> "):
            found.append([module, line[len("    >>> "):], None])
        elif line.startswith("    "):
            found[-1][2] = line.strip()
    return found


def all_names(modules):
    names = {}
    for module in modules:
        loaded = vars(importlib.import_module(f"hoproads.{module}"))
        names.update({name: value for name, value in loaded.items() if not name.startswith("_")})
    names.update({"A": A, "B": B, "C": C, "R": R, "S": S})
    return names


class Examples(unittest.TestCase):
    def test_every_example(self):
        examples = read_examples()
        names = all_names(sorted({module for module, _, _ in examples}))
        shown_some = set()
        for module, source, shown in examples:
            with self.subTest(module=module, source=source):
                if shown is None:
                    exec(source, names)
                else:
                    self.assertEqual(repr(eval(source, names)), repr(eval(shown)))
                    shown_some.add(module)
        self.assertEqual(len(shown_some), len({module for module, _, _ in examples}))


if __name__ == "__main__":
    unittest.main()
