"""Putting sayings in for words."""

from sayable.checks import is_name
from sayable.errors import BadSaying, Unlike
from sayable.needs import need_saying
from sayable.parts import SAYING_KINDS, renumbered_part, shifted_parts
from sayable.sayings import Saying


def _need_told(told):
    """Raises unless it is a dict from names to Sayings."""
    if not isinstance(told, dict):
        raise BadSaying("told")
    if not all([is_name(name) and isinstance(told[name], Saying) for name in told]):
        raise BadSaying("told")


def put_in(saying, told):
    """The saying with what is told for words in the place of these words, all at once."""
    need_saying(saying)
    _need_told(told)
    if [part for part in saying.parts if part[0] == "above" and part[2] in told]:
        raise Unlike("above")
    made = []
    moved = {}
    for number, part in enumerate(saying.parts):
        if part[0] == "word" and part[1] in told:
            made.extend(shifted_parts(told[part[1]].parts, len(made), SAYING_KINDS))
        else:
            made.append(renumbered_part(part, moved, SAYING_KINDS))
        moved[number] = len(made) - 1
    return Saying(made)


def words_left(saying, told):
    """The words of the saying of which nothing is told, ascending."""
    need_saying(saying)
    _need_told(told)
    return tuple([word for word in saying.words if word not in told])
