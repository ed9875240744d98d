"""Lists of names that were passed."""

from sayable.errors import Twice


def need_once(names):
    """Raises Twice for the first name that is equal to one ahead of it."""
    ahead = set()
    for name in names:
        if name in ahead:
            raise Twice(name)
        ahead.add(name)
