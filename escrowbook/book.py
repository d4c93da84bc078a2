"""A book: purses, pacts, and the deeds that move amounts between them.

A deed looks at all that may refuse it before it changes anything.
"""

from escrowbook.errors import Already, NoDay, NoPart, NotAside, Taken, Uneven
from escrowbook.falling import all_that_fall
from escrowbook.pact import DONE, FALLEN, Pact, open_pact_of, pact_of
from escrowbook.purse import Purse, purse_of
from escrowbook.settling import chain, greatest
from escrowbook.telling import amounts_of, needs_of
from escrowbook.words import amount_of, is_whole, name_of


class Book:
    """Purses and pacts, each in the order in which they were made, and a day."""

    def __init__(self):
        self.day = 0
        self._purses = {}
        self._pacts = {}

    def open_purse(self, name):
        """Make a purse with nothing in it."""
        name_of(name)
        if name in self._purses:
            raise Taken("there is a purse of that name")
        self._purses[name] = Purse()

    def put(self, purse, amount):
        """Add an amount from outside to what the purse has free."""
        holder = purse_of(self._purses, purse)
        holder.receive(amount_of(amount))

    def take(self, purse, amount):
        """Take an amount out of what the purse has free."""
        holder = purse_of(self._purses, purse)
        holder.spend(amount_of(amount))

    def tell(self, name, parts, gains, needs, last):
        """Tell a pact, which is open then; the first thing that is wrong refuses it."""
        name_of(name)
        if name in self._pacts:
            raise Taken("a pact of that name was told")
        own_parts = amounts_of(parts, self._purses)
        own_gains = amounts_of(gains, self._purses)
        if sum(own_parts.values()) != sum(own_gains.values()):
            raise Uneven("the parts and the gains have different sums")
        own_needs = needs_of(needs, name, self._pacts)
        if not is_whole(last) or last < self.day:
            raise NoDay("the last day is a whole number, and not less than the book's day")
        self._pacts[name] = Pact(own_parts, own_gains, own_needs, last)

    def set_aside(self, purse, pact):
        """Set the purse's part of the pact aside."""
        holder = purse_of(self._purses, purse)
        found = open_pact_of(self._pacts, pact)
        if purse not in found.parts:
            raise NoPart("the pact has no part of that purse")
        if purse in found.inside:
            raise Already("the part is set aside already")
        holder.hold(found.parts[purse])
        found.inside[purse] = True

    def draw_back(self, purse, pact):
        """Move the purse's part of the pact back to what the purse has free."""
        holder = purse_of(self._purses, purse)
        found = open_pact_of(self._pacts, pact)
        if purse not in found.inside:
            raise NotAside("nothing of that purse is set aside for the pact")
        holder.release(found.parts[purse])
        del found.inside[purse]

    def call_off(self, pact):
        """Let the pact fall, and those that fall with it; the names in the order of falling."""
        open_pact_of(self._pacts, pact)
        return self._let_fall([pact])

    def pass_days(self, count):
        """Let days pass; the names of the pacts that fall of it, in the order of falling."""
        if not is_whole(count) or count < 1:
            raise NoDay("the count of days is a whole number from 1 on")
        self.day += count
        late = [name for name in self._open_names() if self._pacts[name].last < self.day]
        return self._let_fall(late)

    def settle(self):
        """Do all pacts that can be done together; their names in the order of telling."""
        full, needs, done = self._standing()
        names = greatest(full, needs, done)
        for name in names:
            self._do(self._pacts[name])
        return names

    def why_not(self, pact):
        """The names by which the pact would not be done by settle now; none where it would."""
        pact_of(self._pacts, pact)
        full, needs, done = self._standing()
        return chain(pact, full, needs, done)

    def purses(self):
        """The names of all purses, in the order of opening."""
        return list(self._purses)

    def told(self):
        """The names of all pacts, in the order of telling."""
        return list(self._pacts)

    def free_of(self, purse):
        """What the purse has free."""
        return purse_of(self._purses, purse).free

    def aside_of(self, purse):
        """What the purse has set aside."""
        return purse_of(self._purses, purse).aside

    def state_of(self, pact):
        """Whether the pact is open, done or fallen, as a text."""
        return pact_of(self._pacts, pact).state

    def inside_of(self, pact):
        """The purses whose part is set aside for the pact, in the order of its parts."""
        return pact_of(self._pacts, pact).purses_inside()

    def full(self, pact):
        """Whether the pact is open and all of its parts are set aside."""
        return pact_of(self._pacts, pact).is_full()

    def _open_names(self):
        return [name for name in self._pacts if self._pacts[name].is_open()]

    def _needs_of(self, names):
        return {name: self._pacts[name].needs for name in names}

    def _standing(self):
        """What settling goes by: the full pacts' names, their needs, the done pacts' names."""
        full = [name for name in self._pacts if self._pacts[name].is_full()]
        done = [name for name in self._pacts if self._pacts[name].state == DONE]
        return full, self._needs_of(full), done

    def _let_fall(self, first):
        """Let these open pacts fall, and those that need one that has fallen; all their names."""
        names = all_that_fall(first, self._needs_of(self._open_names()))
        for name in names:
            self._fall(self._pacts[name])
        return names

    def _fall(self, pact):
        for purse in pact.purses_inside():
            holder = self._purses[purse]
            holder.release(pact.parts[purse])
        pact.end(FALLEN)

    def _do(self, pact):
        for purse, amount in pact.parts.items():
            holder = self._purses[purse]
            holder.hand_over(amount)
        for purse, amount in pact.gains.items():
            holder = self._purses[purse]
            holder.receive(amount)
        pact.end(DONE)
