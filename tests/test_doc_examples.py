"""The examples of the document, as they stand there: doc_examples.txt holds them, in their order."""

import ast
import pathlib
import unittest

from tests import checks, interface

TEXT = pathlib.Path(__file__).resolve().parent / "doc_examples.txt"
ERROR_VALUES = {name: values for name, _, values in interface.ERRORS}


def examples():
    """The pairs of a line behind >>> and the line told below it, None without one."""
    lines = [line for line in TEXT.read_text(encoding="ascii").splitlines() if not line.startswith("#")]
    for place, line in enumerate(lines):
        if line.startswith(">>> "):
            below = lines[place + 1] if place + 1 < len(lines) else ">>> "
            yield line[4:], None if below.startswith(">>> ") else below


def expected_of(told):
    """What a line tells: a value, or an error with its values."""
    if not told.startswith("raises "):
        return ast.literal_eval(told)
    call = ast.parse(told[len("raises "):], mode="eval").body
    values = {own.arg: ast.literal_eval(own.value) for own in call.keywords}
    values.update(zip(ERROR_VALUES[call.func.id], [ast.literal_eval(own) for own in call.args]))
    return checks.Raises(call.func.id, **values)


class DocExamplesTest(unittest.TestCase):
    def test_examples(self):
        # One space for all: names are those of the nearest example ahead that sets them, in any section.
        names = interface.everything()
        count = 0
        for line, told in examples():
            with self.subTest(example=line):
                if told is None:
                    exec(line, names)
                    continue
                count += 1
                expected = expected_of(told)
                try:
                    found = eval(line, names)
                except (LookupError, ValueError) as error:
                    found = checks.raised(error)
                self.assertTrue(checks.same(found, expected), f"{found!r} for {expected!r}")
        self.assertEqual(count, 145)


if __name__ == "__main__":
    unittest.main()
