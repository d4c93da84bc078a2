"""Which full pacts can be done together, and why another one can not be done with them."""

from collections import deque

from escrowbook.needing import needing_of


def greatest(full, needs, done):
    """The names of `full`, in its order, that can be done together with those of `done`.

    Each need of each of them is one of them or of `done`.
    """
    needing = needing_of({name: needs[name] for name in full})
    known = {name: True for name in [*full, *done]}
    # What needs a name that can not be done can not be done either, and so on.
    failing = [need for need in needing if need not in known]
    out = {}
    while failing:
        need = failing.pop()
        for name in needing.get(need, []):
            if name not in out:
                out[name] = True
                failing.append(name)
    return [name for name in full if name not in out]


def chain(name, full, needs, done):
    """The shortest list of needs from the name to one that is neither full nor done.

    Of several shortest ones it is the first by the order of the needs; it is empty where
    there is none.
    """
    if name in done:
        return []
    full_names = {other: True for other in full}
    done_names = {other: True for other in done}
    # Nearer names wait ahead of farther ones, and equally near ones in the order of their ways,
    # so the first way by which a name is reached is the one that point 14 asks for.
    reached_from = {name: None}
    waiting = deque([name])
    while waiting:
        here = waiting.popleft()
        if here not in full_names:
            return _way_to(here, reached_from)
        for need in needs[here]:
            if need not in done_names and need not in reached_from:
                reached_from[need] = here
                waiting.append(need)
    return []


def _way_to(name, reached_from):
    way = []
    while name is not None:
        way.append(name)
        name = reached_from[name]
    way.reverse()
    return way
