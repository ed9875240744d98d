"""Parts, of which a saying is made, and anything else that is kept as sayings are.

What parts there may be is told by a table: pairs of a kind and the codes of the
items behind it. The code "part" is the number of a part ahead.
"""

from sayable.checks import is_list, is_name, is_within
from sayable.errors import BadText
from sayable.texts import Reader, is_written

DIRECTIONS = ("on", "back")
LEAST_MANY = 2
MOST_MANY = 40

SAYING_KINDS = (
    ("thing", ()),
    ("nothing", ()),
    ("word", ("word",)),
    ("both", ("part", "part")),
    ("either", ("part", "part")),
    ("not", ("part",)),
    ("some", ("link", "direction", "part")),
    ("every", ("link", "direction", "part")),
    ("least", ("many", "link", "direction", "part")),
    ("top", ("scale", "part")),
    ("above", ("scale", "word")),
)

TIE_KINDS = (
    ("same", ()),
    ("any", ()),
    ("none", ()),
    ("link", ("link",)),
    ("of", ("word",)),
    ("both", ("part", "part")),
    ("either", ("part", "part")),
    ("not", ("part",)),
    ("turned", ("part",)),
    ("over", ("part", "part")),
)


def _can_stand(item, code, ahead):
    """Whether any value can be an item with this code of a part with so many ahead."""
    if code == "part":
        return is_within(item, 0, ahead - 1)
    if code == "many":
        return is_within(item, LEAST_MANY, MOST_MANY)
    if code == "direction":
        return isinstance(item, str) and item in DIRECTIONS
    return is_name(item)


def _is_part(part, table, ahead):
    if not is_list(part) or not part or not isinstance(part[0], str):
        return False
    if part[0] not in table or len(part) != len(table[part[0]]) + 1:
        return False
    return all([_can_stand(item, code, ahead) for item, code in zip(part[1:], table[part[0]])])


def checked_parts(parts, kinds):
    """The parts as a list of tuples, in one form; None for any value that is none."""
    if not is_list(parts) or not parts:
        return None
    table = dict(kinds)
    found = []
    for part in parts:
        if not _is_part(part, table, len(found)):
            return None
        found.append(tuple(part))
    return one_form(found, kinds)


def _borne(part, codes):
    """The numbers of parts that a part bears, from left to right."""
    return [item for item, code in zip(part[1:], codes) if code == "part"]


def _with_numbers(part, codes, moved):
    items = [moved[item] if code == "part" else item for item, code in zip(part[1:], codes)]
    return (part[0], *items)


def renumbered_part(part, moved, kinds):
    """The part with moved[k] in the place of each number k of a part."""
    return _with_numbers(part, dict(kinds)[part[0]], moved)


def one_form(parts, kinds):
    """The parts that the last one needs, in the order of the walk, each once."""
    table = dict(kinds)
    made = []
    numbers = {}
    moved = {}
    walk = [len(parts) - 1]
    while walk:
        at = walk[-1]
        part = parts[at]
        codes = table[part[0]]
        waiting = [number for number in _borne(part, codes) if number not in moved]
        if waiting:
            walk.append(waiting[0])
            continue
        walk.pop()
        part = _with_numbers(part, codes, moved)
        if part not in numbers:
            numbers[part] = len(made)
            made.append(part)
        moved[at] = numbers[part]
    return made


def shifted_parts(parts, by, kinds):
    """The parts as they stand behind so many others."""
    table = dict(kinds)
    moved = {number: number + by for number in range(len(parts))}
    return [_with_numbers(part, table[part[0]], moved) for part in parts]


def joined_parts(one, other, kind, kinds):
    """Two rows of parts as one row, with a part of this kind over the last one of each."""
    many = len(one) + len(other)
    return [*one, *shifted_parts(other, len(one), kinds), (kind, len(one) - 1, many - 1)]


def folded_parts(rows, kind, kinds):
    """One row or more as one: of the first two, then of that and the third, and so on."""
    parts = list(rows[0])
    for row in rows[1:]:
        last = len(parts) - 1
        parts.extend(shifted_parts(row, len(parts), kinds))
        parts.append((kind, last, len(parts) - 1))
    return parts


def part_depths(parts, kinds):
    """The depth of each part."""
    table = dict(kinds)
    depths = []
    for part in parts:
        below = [depths[number] for number in _borne(part, table[part[0]])]
        deeper = 1 if part[0] in ("some", "every", "least") else 0
        depths.append(max([0, *below]) + deeper)
    return depths


def items_with(parts, kinds, code):
    """The items with this code in the parts, ascending, each once."""
    table = dict(kinds)
    return tuple(sorted({item for part in parts for item, told in zip(part[1:], table[part[0]]) if told == code}))


def parts_text(parts):
    """The text of the parts."""
    return " / ".join([" ".join([str(item) for item in part]) for part in parts])


def read_parts(text, kinds):
    """The parts with this text."""
    reader = Reader(text)
    table = dict(kinds)
    parts = []
    ahead = set()
    while True:
        part = _read_part(reader, table, len(parts))
        if part in ahead:
            raise BadText(0, reader.at - 1)
        parts.append(part)
        ahead.add(part)
        if reader.now() is None:
            break
        if reader.now() != "/":
            reader.fail()
        reader.step()
    if one_form(parts, kinds) != parts:
        reader.refuse_last()
    return parts


def _read_part(reader, table, ahead):
    kind = reader.now()
    if kind not in table:
        reader.fail()
    reader.step()
    items = []
    for code in table[kind]:
        items.append(_read_item(reader, code, ahead))
        reader.step()
    return (kind, *items)


def _read_item(reader, code, ahead):
    word = reader.now()
    item = word
    if code in ("part", "many"):
        if not is_written(word, False):
            reader.fail()
        item = int(word)
    if not _can_stand(item, code, ahead):
        reader.fail()
    return item
