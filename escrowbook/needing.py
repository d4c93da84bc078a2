"""Needs the other way round."""


def needing_of(needs):
    """From a dict of names and their needs: for each need the names that need it."""
    needing = {}
    for name, wanted in needs.items():
        for need in wanted:
            needing.setdefault(need, []).append(name)
    return needing
