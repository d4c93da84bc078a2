"""Which pacts fall, once some of them do."""

from heapq import heappop, heappush

from escrowbook.needing import needing_of


def all_that_fall(first, needs):
    """The names of all that fall once those of `first` do, in the order in which they fall.

    `needs` is a dict with the needs of each open pact, in the order in which they were told;
    `first` names some of these, in the same order.
    """
    names = list(needs)
    places = {name: place for place, name in enumerate(names)}
    needing = needing_of(needs)
    # Those of `first` go ahead of all others. Being in order, this list is a heap already.
    waiting = [(0, places[name]) for name in first]
    fallen = {}
    while waiting:
        _, place = heappop(waiting)
        name = names[place]
        # A pact with several needs that have fallen waits several times, but falls once.
        if name not in fallen:
            fallen[name] = True
            for other in needing.get(name, []):
                heappush(waiting, (1, places[other]))
    return list(fallen)
