"""Tests that the package keeps what can be checked simply of LANGUAGE.md, and of that check."""

import pathlib
import tempfile
import unittest

from tests.language import faults_of_folder, faults_of_source

PACKAGE = pathlib.Path(__file__).resolve().parent.parent / "escrowbook"


class PackageTest(unittest.TestCase):
    def test_the_package_keeps_the_rules(self):
        self.assertEqual(faults_of_folder(PACKAGE), [])


class FolderTest(unittest.TestCase):
    def setUp(self):
        held = tempfile.TemporaryDirectory()
        self.addCleanup(held.cleanup)
        self.folder = pathlib.Path(held.name)
        self.put("__init__.py")

    def put(self, name, source=b""):
        (self.folder / name).write_bytes(source)

    def assert_faults(self, many):
        self.assertEqual(len(faults_of_folder(self.folder)), many, faults_of_folder(self.folder))

    def test_py_files_alone_are_well(self):
        self.put("words.py", b"ONE = 1\n")
        self.assert_faults(0)

    def test_another_file_is_a_fault(self):
        for many, name in enumerate(("notes.txt", "data", "words.pyc", ".hidden.py", "a-b.py"), start=1):
            self.put(name)
            self.assert_faults(many)

    def test_a_capital_letter_in_a_file_name_is_a_fault(self):
        self.put("Words.py")
        self.assert_faults(1)

    def test_a_folder_is_a_fault(self):
        (self.folder / "inner").mkdir()
        (self.folder / "inner.py").mkdir()
        self.assert_faults(2)

    def test_a_missing_init_is_a_fault(self):
        (self.folder / "__init__.py").unlink()
        self.assert_faults(1)

    def test_a_fault_in_a_file_is_a_fault_of_the_folder(self):
        self.put("words.py", b"ONE = 1\t\n")
        self.assert_faults(1)


class SourceTest(unittest.TestCase):
    def assert_faults(self, source, many):
        self.assertEqual(len(faults_of_source(source)), many, faults_of_source(source))

    def test_a_plain_file_is_well(self):
        self.assert_faults(b'"""A file."""\n\nTILDE = "~ ~"\n', 0)

    def test_signs(self):
        for sign in (b"\t", b"\r", b"\f", b"\x7f", b"\x1f"):
            with self.subTest(sign):
                self.assert_faults(b"ONE = 1 #" + sign + b"\n", 1)
        self.assert_faults("ONE = 1 # \u00e4\n".encode(), 2)

    def test_the_length_of_a_line(self):
        self.assert_faults(b"#" * 120 + b"\n", 0)
        self.assert_faults(b"#" * 121 + b"\n", 1)
        self.assert_faults(b"\n" + b"#" * 121, 1)

    def test_the_lines_of_a_file(self):
        self.assert_faults(b"\n" * 399, 0)
        self.assert_faults(b"\n" * 398 + b"#", 0)
        self.assert_faults(b"\n" * 400, 1)
        self.assert_faults(b"\n" * 399 + b"#", 1)

    def test_the_lines_of_a_function(self):
        self.assert_faults(b"def f():\n" + b"    pass\n" * 39, 0)
        self.assert_faults(b"def f():\n" + b"    pass\n" * 40, 1)

    def test_the_lines_of_a_method_with_a_decorator(self):
        head = b"class C:\n    @property\n    def f(self):\n"
        self.assert_faults(head + b"        pass\n" * 38, 0)
        self.assert_faults(head + b"        pass\n" * 39, 1)


if __name__ == "__main__":
    unittest.main()
