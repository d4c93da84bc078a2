"""Tests that what README.md shows is so."""

import contextlib
import io
import pathlib
import unittest

README = pathlib.Path(__file__).resolve().parent.parent / "README.md"


def shown():
    """The lines of README.md's program text, and what each of them is said to answer."""
    rows = []
    for line in README.read_text(encoding="utf-8").splitlines():
        if line.startswith("    ") and not line.startswith(("    bash ", "    python3 ")):
            code, _, told = line[4:].partition("  # ")
            rows.append((code.rstrip(), told.strip()))
    return rows


class ReadmeTest(unittest.TestCase):
    def setUp(self):
        self.printed = []

    def test_each_line_answers_what_is_told_beside_it(self):
        names, block, asked = {}, [], 0
        for code, told in shown():
            if told.startswith(("[", '"', "True")) or told[:1].isdigit():
                self.run_block(block, names)
                block = []
                found = repr(eval(code, names)).replace("'", '"')
                self.assertEqual(told[:len(found)], found, code)
                asked += 1
            else:
                block.append(code)
        self.assertEqual((block, asked), ([], 14))
        self.assertIn("has less free", "".join(self.printed))

    def run_block(self, block, names):
        """Run lines that answer nothing, and keep what they print."""
        with contextlib.redirect_stdout(io.StringIO()) as printed:
            exec("\n".join(block), names)
        self.printed.append(printed.getvalue())


if __name__ == "__main__":
    unittest.main()
