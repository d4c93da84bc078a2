"""What the tests of refusals share: odd things to hand in, and how a refusal is caught."""

import unittest

from escrowbook import errors
from tests.interface import REFUSALS


class Text(str):
    """Passes for a text, but is of a kind of its own."""

    def __len__(self):
        return 3

    def __iter__(self):
        return iter("abc")


class Number(int):
    """Passes for a whole number, but is of a kind of its own."""

    def __ge__(self, other):
        return True

    def __le__(self, other):
        return True


class Mute:
    """Can be neither shown, nor compared, nor counted, nor told apart."""

    __hash__ = None

    def refuse(self, *rest):
        raise RuntimeError("not to be asked")

    __repr__ = __str__ = __eq__ = __lt__ = __gt__ = __le__ = __ge__ = refuse
    __len__ = __iter__ = __bool__ = __int__ = __index__ = __getattr__ = refuse


class Liar:
    """Passes for the key "anna" of a dict."""

    def __hash__(self):
        return hash("anna")

    def __eq__(self, other):
        return other == "anna"


# Of no kind that has either names or amounts in it.
NEITHER = (
    True, False, None, 0.0, 1.0, 2.5, float("nan"), float("inf"), 1j, b"", b"a", b"abc",
    bytearray(b"abc"), [], ["abc"], [1], (), ("abc",), (1,), {}, {"abc": 1}, {1: "abc"}, set(),
    {"abc"}, {1}, range(1, 2), str, int, len, object(), Mute(), iter("abc"), ["a", "b", "c"],
    NotImplemented, ...,
)

NO_NAMES = NEITHER + (
    "", "abcdefghijklm", "Anna", "anna ", " anna", "anna\n", "a1", "a-b", "\u00e4", "a" * 10000,
    0, 1, -1, 10 ** 30, 10 ** 5000, ["anna"], ("anna",), {"anna"}, {"anna": 1}, [["anna"]], b"anna",
    Liar(), Text("anna "),
)

NO_AMOUNTS = NEITHER + (
    0, -1, -(10 ** 30), 10 ** 30 + 1, 10 ** 31, 10 ** 5000, -(10 ** 5000), "", "1", "anna",
    [5], (5,), {5: 5}, Number(-5),
)

NO_WHOLE_NUMBERS = NEITHER + ("", "1", "anna", "ten", [5], (5,), {5: 5}, [["anna"]])


class RefusedTest(unittest.TestCase):
    def assert_refused(self, kind, deed, *things):
        """The deed is refused with this kind, and with no other of the kinds."""
        try:
            deed(*things)
        except Exception as refusal:
            caught = refusal
        else:
            self.fail("not refused")
        self.assertIs(type(caught), kind)
        self.assertIsInstance(caught, errors.BookError)
        self.assertIsInstance(caught, ValueError)
        for name in REFUSALS:
            if getattr(errors, name) is not kind:
                self.assertNotIsInstance(caught, getattr(errors, name))
