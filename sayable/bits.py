"""Sets of small integers, kept as the bits of one integer."""


def bits_of(mask):
    """The numbers of the bits of a mask, ascending."""
    found = []
    while mask:
        low = mask & -mask
        found.append(low.bit_length() - 1)
        mask = mask ^ low
    return found


def count_of(mask):
    """How many bits a mask has."""
    many = 0
    while mask:
        mask = mask & (mask - 1)
        many += 1
    return many


def mask_of(numbers):
    """The mask with these bits."""
    mask = 0
    for number in numbers:
        mask = mask | 1 << number
    return mask


def joined_masks(rows, mask):
    """The bits of all rows whose numbers are bits of the mask, together."""
    joined = 0
    for number in bits_of(mask):
        joined = joined | rows[number]
    return joined


def turned_rows(rows):
    """The rows read the other way: bit k of row n where row k has bit n."""
    turned = [0] * len(rows)
    for number, row in enumerate(rows):
        for bit in bits_of(row):
            turned[bit] = turned[bit] | 1 << number
    return turned
