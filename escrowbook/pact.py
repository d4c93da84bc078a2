"""A pact: what was told of it, and how it stands."""

from escrowbook.errors import NoPact, NotOpen
from escrowbook.words import is_name

OPEN = "open"
DONE = "done"
FALLEN = "fallen"


class Pact:
    """A pact as it was told, its state, and whose parts are set aside for it."""

    def __init__(self, parts, gains, needs, last):
        """Parts and gains are dicts from a purse's name to an amount, in the order told."""
        self.parts = parts
        self.gains = gains
        self.needs = needs
        self.last = last
        self.state = OPEN
        self.inside = {}

    def is_open(self):
        """Whether it is neither done nor fallen."""
        return self.state == OPEN

    def is_full(self):
        """Whether it is open and all of its parts are set aside."""
        return self.is_open() and len(self.inside) == len(self.parts)

    def purses_inside(self):
        """The purses whose part is set aside, in the order of the parts."""
        return [purse for purse in self.parts if purse in self.inside]

    def end(self, state):
        """Be done or fallen from now on, with nothing set aside."""
        self.state = state
        self.inside = {}


def pact_of(pacts, name):
    """The pact of that name in the dict; refused with NoPact where there is none."""
    # Only a name is looked up: another thing may be none that a dict can be asked for.
    if not is_name(name) or name not in pacts:
        raise NoPact("no pact of that name was told")
    return pacts[name]


def open_pact_of(pacts, name):
    """The same, refused with NotOpen too, where the pact is done or fallen."""
    found = pact_of(pacts, name)
    if not found.is_open():
        raise NotOpen("the pact is done or fallen")
    return found
