"""Lots of numbers that belong together."""


def grouped(keys):
    """The lots of the places at which equal keys stand, by their first ones."""
    found = {}
    for at, key in enumerate(keys):
        found.setdefault(key, []).append(at)
    return tuple([tuple(lot) for lot in found.values()])
