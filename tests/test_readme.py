"""What README.md shows is what the program tells."""

import pathlib
import re
import unittest

README = pathlib.Path(__file__).resolve().parent.parent / "README.md"
TOLD = r"(True|False|None|-?\d+|\"\w+\"|\(.*\))"


def shown_rows():
    """The rows of all examples, one behind another."""
    blocks = re.findall(r"```python\n(.*?)```", README.read_text("ascii"), re.S)
    return "\n".join(blocks)


class ReadmeTest(unittest.TestCase):
    def test_the_examples_run_and_tell_what_stands_beside_them(self):
        names = {}
        exec(shown_rows(), names)
        compared = 0
        for row in shown_rows().split("\n"):
            code, sign, comment = row.partition("  # ")
            told = re.match(TOLD + r"($|[:;])", comment)
            if sign and told and not row.startswith(" "):
                expression = code.split(" = ", 1)[-1].strip()
                self.assertEqual(eval(expression, names), eval(told.group(1)), row)
                compared += 1
        self.assertGreaterEqual(compared, 55)


if __name__ == "__main__":
    unittest.main()
