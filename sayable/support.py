"""Stages and closed pairs that show how long a pair is like: just those pairs that it leads to.

Pairs are kept as rows: dicts from the numbers of points to masks of places, as PlaceRounds
and PointRounds tell them.
"""


def stages_to(rounds, one, other, many):
    """So many stages, the last one of this pair alone, which is like for one round less."""
    rows = {one: 1 << other}
    found = [rows]
    for behind in range(many - 1):
        rows = rounds.pairs_below(rows, many - 2 - behind, {})
        found.append(rows)
    return [told_pairs(rounds, stage) for stage in reversed(found)]


def closed_from(rounds, one, other):
    """Closed pairs with this pair, which is like for all rounds."""
    return told_pairs(rounds, closed_rows(rounds, {one: 1 << other}))


def closed_rows(rounds, asked):
    """The rows of closed pairs with these pairs, which are like for all rounds."""
    rows = dict(asked)
    fresh = dict(asked)
    while fresh:
        fresh = rounds.pairs_below(fresh, None, rows)
        for number in fresh:
            rows[number] = rows.get(number, 0) | fresh[number]
    return rows


def told_pairs(rounds, rows):
    """The pairs of the rows, as tuples of a point and a place."""
    found = []
    for number in sorted(rows):
        point = rounds.point_of(number)
        for place in rounds.field.places_in(rows[number]):
            found.append((point, place))
    return tuple(found)
