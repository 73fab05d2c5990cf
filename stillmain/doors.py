"""The check at the doors that take whatever is handed in."""

from stillmain.errors import Wrong


def need(at, fits):
    """Refuse what was handed in at this place where it doesn't fit."""
    if not fits:
        raise Wrong(at)
