"""What the tests of a book share: what is seen of it, and how one is made ready."""

from escrowbook.book import Book
from tests.refusing import RefusedTest

MOST = 10 ** 30
LATE = 1000


def seen(book):
    """All that can be asked of a book."""
    return {
        "day": book.day,
        "purses": [(name, book.free_of(name), book.aside_of(name)) for name in book.purses()],
        "pacts": [(name, book.state_of(name), book.inside_of(name), book.full(name),
                   book.why_not(name)) for name in book.told()],
    }


def book_of(**free):
    """A book with these purses, each with so much free (0: with nothing in it)."""
    book = Book()
    for name, amount in free.items():
        book.open_purse(name)
        if amount:
            book.put(name, amount)
    return book


def tell_simple(book, name, needs=(), last=LATE):
    """Tell a pact of one part and one gain: anna sets 1 aside, ben gets it."""
    book.tell(name, [("anna", 1)], [("ben", 1)], list(needs), last)


def tell_filled(book, name, needs=(), last=LATE):
    """The same, and set the part aside."""
    tell_simple(book, name, needs, last)
    book.set_aside("anna", name)


def states(book):
    """The state of each pact."""
    return {name: book.state_of(name) for name in book.told()}


class BookTest(RefusedTest):
    def assert_refuses(self, kind, deed, *things):
        """The deed, a method of a book, is refused with this kind and changes nothing."""
        book = deed.__self__
        before = seen(book)
        self.assert_refused(kind, deed, *things)
        self.assertEqual(seen(book), before)

    def assert_purse(self, book, name, free, aside):
        self.assertEqual((book.free_of(name), book.aside_of(name)), (free, aside))
