"""What parts fit, as masks: of the things of a room, or of the places of several."""

from sayable.bits import bits_of, count_of, mask_of


def fitted_mask(part, masks, whole, rows):
    """What a part fits that needs no word and no scale.

    The masks are those of the parts ahead, whole is the mask of all; rows tell, where
    the part bears a link, for each number to what this link, read as the part does, leads.
    """
    kind = part[0]
    if kind == "thing":
        return whole
    if kind == "nothing":
        return 0
    if kind == "both":
        return masks[part[1]] & masks[part[2]]
    if kind == "either":
        return masks[part[1]] | masks[part[2]]
    if kind == "not":
        return whole & ~masks[part[1]]
    return _led_mask(part, masks[part[-1]], rows)


def _led_mask(part, mask, rows):
    """What a part that bears a link fits, its own part being what the mask tells."""
    fitted = 0
    for number, row in enumerate(rows):
        if part[0] == "some":
            is_fit = row & mask != 0
        elif part[0] == "every":
            is_fit = row & ~mask == 0
        else:
            is_fit = count_of(row & mask) >= part[1]
        if is_fit:
            fitted = fitted | 1 << number
    return fitted


def top_mask(numbers, mask):
    """Those of the mask that have a number, and none of the mask a greater one."""
    told = _numbers_in(numbers, mask)
    greatest = max([number for _, number in told], default=None)
    return mask_of([at for at, number in told if number == greatest])


def above_mask(numbers, mask):
    """Those of the mask that have a number greater than those of more than half of the others."""
    told = _numbers_in(numbers, mask)
    lesser = {}
    for at, number in enumerate(sorted([number for _, number in told])):
        lesser.setdefault(number, at)
    return mask_of([at for at, number in told if 2 * lesser[number] > len(told) - 1])


def _numbers_in(numbers, mask):
    """The pairs of those of the mask that have a number and this number."""
    return [(at, numbers[at]) for at in bits_of(mask) if numbers[at] is not None]


def scaled_mask(kind, numbers, mask):
    """What of the mask a part that bears a scale fits: top of its part, above of its word."""
    return top_mask(numbers, mask) if kind == "top" else above_mask(numbers, mask)
