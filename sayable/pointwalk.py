"""Points as masks of places: where links lead from them, and which come about."""

from sayable.bits import bits_of
from sayable.errors import TooMany

MOST_CHOICES = 5000
MOST_POINTS = 5000


def _need_few_choices(counts):
    choices = 1
    for many in counts:
        choices = choices * many
    if choices > MOST_CHOICES:
        raise TooMany("choices", MOST_CHOICES)


def led_points(rows, point):
    """The points to which a link with these rows leads from a point, in their order."""
    heads = [bits_of(rows[number]) for number in bits_of(point)]
    _need_few_choices([len(row) for row in heads])
    if [] in heads:
        return []
    made = [0]
    for row in heads:
        # Many choices make the same point: each is kept once, from the first place on.
        made = list({one | 1 << head: True for one in made for head in row})
    return sorted(made, key=bits_of)


def points_about(field, point, back):
    """The points that come about from a point, in the order in which they are met."""
    links_read = [field.link_rows(link, way) for link, way in field.ways_to_read(back)]
    met = [point]
    known = {point: True}
    turn = 0
    while turn < len(met):
        now = met[turn]
        for rows in links_read:
            led = led_points(rows, now)
            for one in led:
                if one not in known:
                    if len(met) == MOST_POINTS:
                        raise TooMany("points", MOST_POINTS)
                    known[one] = True
                    met.append(one)
        turn += 1
    return met
