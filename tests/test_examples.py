"""The examples that the document gives, as they are written there, in the files of the folder examples."""

import doctest
import pathlib
import re
import unittest

from cutorclose import errors
from tests.support import Case, fields_of

FOLDER = pathlib.Path(__file__).parent / "examples"
RAISES = re.compile(r"raises (\w+)\((.*)\)$")


def steps_in(text):
    """The statements of a file, each with what the document says of it, perhaps nothing."""
    steps = []
    for line in text.splitlines():
        if line.startswith(">>> "):
            steps.append((line[4:], []))
        else:
            steps[-1][1].append(line)
    return [(statement, "\n".join(told)) for statement, told in steps]


class Examples(Case):
    def run_file(self, path, names):
        for statement, told in steps_in(path.read_text()):
            with self.subTest(file=path.name, statement=statement):
                self.run_step(statement, told, names)

    def run_step(self, statement, told, names):
        raises = RAISES.match(told)
        if told == "":
            exec(statement, names)
        elif raises:
            kind = getattr(errors, raises[1])
            with self.assertRaises(kind) as caught:
                eval(statement, names)
            self.assertIs(type(caught.exception), kind)
            self.exact(fields_of(caught.exception), eval(f"dict({raises[2]})", names))
        else:
            self.exact(eval(statement, names), eval(told, names))

    def test_each_file(self):
        # In the order of the document, as later examples use values of earlier ones.
        paths, names = sorted(FOLDER.glob("*.txt")), {}
        for path in paths:
            self.run_file(path, names)
        self.assertGreater(len(paths), 1)

    def test_readme(self):
        told = doctest.testfile(str(FOLDER.parent.parent / "README.md"), module_relative=False)
        self.assertEqual(told.failed, 0)
        self.assertGreater(told.attempted, 0)


if __name__ == "__main__":
    unittest.main()
