"""A purse: what it has free, and what it has set aside."""

from escrowbook.errors import NoPurse, TooLittle
from escrowbook.words import is_name


class Purse:
    """An amount free and an amount set aside for open pacts."""

    def __init__(self):
        self.free = 0
        self.aside = 0

    def receive(self, amount):
        """Have this much more free."""
        self.free += amount

    def spend(self, amount):
        """Have this much less free; refused with TooLittle where less is free."""
        if self.free < amount:
            raise TooLittle("the purse has less free")
        self.free -= amount

    def hold(self, amount):
        """Move this much from what is free to what is set aside; refused as spend is."""
        self.spend(amount)
        self.aside += amount

    def release(self, amount):
        """Move this much from what is set aside back to what is free."""
        self.hand_over(amount)
        self.receive(amount)

    def hand_over(self, amount):
        """Have this much less set aside."""
        self.aside -= amount


def purse_of(purses, name):
    """The purse of that name in the dict; refused with NoPurse where there is none."""
    # Only a name is looked up: another thing may be none that a dict can be asked for.
    if not is_name(name) or name not in purses:
        raise NoPurse("there is no purse of that name")
    return purses[name]
