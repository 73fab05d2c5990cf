"""Keeping what was told as it was, whatever is done to the lists in it later."""


def kept(thing):
    """A copy of lists, dicts and tuples, and of those within them."""
    if type(thing) is dict:
        return {key: kept(worth) for key, worth in thing.items()}
    if type(thing) in (list, tuple):
        return type(thing)([kept(member) for member in thing])
    return thing
