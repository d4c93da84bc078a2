"""What a name is, what a whole number is, and what an amount is."""

from escrowbook.errors import NoAmount, NoName

LONGEST_NAME = 12
GREATEST_AMOUNT = 10 ** 30


def name_of(thing):
    """The thing, where it is a name; any other thing is refused with NoName."""
    if not is_name(thing):
        # The thing is not shown: to write out any thing whatever may itself fail.
        raise NoName("a name is a text of one to twelve small letters, a to z")
    return thing


def amount_of(thing):
    """The thing, where it is an amount; any other thing is refused with NoAmount."""
    if not _is_amount(thing):
        # Not shown either: Python refuses to write out a very long number.
        raise NoAmount("an amount is a whole number from 1 to 10 ** 30")
    return thing


def is_name(thing):
    """Whether the thing is a name; any thing may be handed in."""
    # The exact kind is asked for, so that nothing that only passes for a text gets in.
    if type(thing) != str:
        return False
    if not 1 <= len(thing) <= LONGEST_NAME:
        return False
    for sign in thing:
        # Other alphabets have small letters too, so islower would let in too many.
        if not "a" <= sign <= "z":
            return False
    return True


def is_whole(thing):
    """Whether the thing is a whole number; any thing may be handed in."""
    # The exact kind is asked for, because True and False pass for 1 and 0.
    return type(thing) == int


def _is_amount(thing):
    return is_whole(thing) and 1 <= thing <= GREATEST_AMOUNT
