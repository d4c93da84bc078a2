"""What a book asks of the rows of a pact that is told.

What is answered is a copy: a list that is changed after it was handed in changes no pact.
"""

from escrowbook.errors import Fallen, NoRow, Twice
from escrowbook.pact import FALLEN
from escrowbook.purse import purse_of
from escrowbook.words import amount_of, name_of

MOST_ROWS = 8


def amounts_of(pairs, purses):
    """The parts or the gains: a dict from each purse's name to its amount, in their order."""
    if not 1 <= len(pairs) <= MOST_ROWS:
        raise NoRow("there are to be one to eight pairs")
    amounts = {}
    for purse, amount in pairs:
        purse_of(purses, purse)
        if purse in amounts:
            raise Twice("a purse stands in two pairs")
        amounts[purse] = amount_of(amount)
    return amounts


def needs_of(needs, name, pacts):
    """The needs of the pact of that name: a list of names, in their order."""
    if len(needs) > MOST_ROWS:
        raise NoRow("there are to be at most eight needs")
    checked = []
    for need in needs:
        name_of(need)
        if need == name or need in checked:
            raise Twice("a need stands twice, or is the pact itself")
        if need in pacts and pacts[need].state == FALLEN:
            raise Fallen("a need has fallen")
        checked.append(need)
    return checked
