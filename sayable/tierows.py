"""What the parts of ties fit, as rows: for each place the mask of those with which it is fitted."""

from sayable.bits import joined_masks, turned_rows


def own_rows(field):
    """For each place the mask of the places of its room."""
    rows = []
    for room, whole in zip(field.rooms, field.room_masks()):
        rows.extend([whole] * len(room))
    return rows


def part_rows(field, part, made):
    """The rows of a part; made has those of the parts ahead."""
    kind = part[0]
    if kind == "same":
        return [1 << number for number in range(field.many)]
    if kind == "any":
        return own_rows(field)
    if kind == "none":
        return [0] * field.many
    if kind == "link":
        return list(field.link_rows(part[1], False))
    if kind == "of":
        mask = field.word_mask(part[1])
        return [mask & 1 << number for number in range(field.many)]
    rows = made[part[1]]
    if kind == "not":
        return [whole & ~row for whole, row in zip(own_rows(field), rows)]
    if kind == "turned":
        return turned_rows(rows)
    others = made[part[2]]
    if kind == "over":
        return [joined_masks(others, row) for row in rows]
    if kind == "both":
        return [row & other for row, other in zip(rows, others)]
    return [row | other for row, other in zip(rows, others)]


def tie_rows(field, tie):
    """The rows of a tie whose words and links are those of the field's rooms."""
    made = []
    for part in tie.parts:
        made.append(part_rows(field, part, made))
    return made[-1]
