"""What sayings fit at all places of a field at once."""

from sayable.fits import fitted_mask


def part_places(field, part, masks, more):
    """The places that a part fits; the masks are those of the parts ahead, more tells those of further words."""
    kind = part[0]
    if kind == "word":
        return _word_places(field, part[1], more)
    if kind == "top":
        return field.scaled_places(kind, part[1], masks[part[2]])
    if kind == "above":
        return field.scaled_places(kind, part[1], _word_places(field, part[2], more))
    rows = ()
    if kind in ("some", "every", "least"):
        rows = field.link_rows(part[-3], part[-2] == "back")
    return fitted_mask(part, masks, field.whole, rows)


def _word_places(field, word, more):
    return more[word] if word in more else field.word_mask(word)


def place_mask(field, saying, more):
    """The places that a saying fits, the names of whose parts the stock has, or more."""
    masks = []
    for part in saying.parts:
        masks.append(part_places(field, part, masks, more))
    return masks[-1]
