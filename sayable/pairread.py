"""Reading told pairs of points and places: which pass round 0, and the step within others.

Pairs are read into rows, masks of places: of PlacePairs a list by the numbers of the places
that the points have, of PointPairs a dict by the masks of the points.
"""

from sayable.alike import Step, first_rows
from sayable.checks import is_list
from sayable.needs import is_place
from sayable.points import is_point
from sayable.pointwalk import PointWalk, first_mask


class PlacePairs:
    """Pairs in the ten ways that have "or": their points are of one place."""

    def __init__(self, field, way):
        self.field = field
        self.step = Step(field, way)
        self.first = first_rows(field, way)

    def told_rows(self, value):
        """The rows of told pairs; None for any other value."""
        if not is_list(value):
            return None
        rows = [0] * self.field.many
        for pair in value:
            if not _is_pair(self.field, pair) or len(pair[0]) > 1:
                return None
            number = self.field.number_of_place(pair[0][0])
            rows[number] = rows[number] | 1 << self.field.number_of_place(pair[1])
        return rows

    def are_first(self, rows):
        """Whether all pairs pass round 0."""
        return all([row & ~first == 0 for row, first in zip(rows, self.first)])

    def are_stepping(self, rows, ahead):
        """Whether all pairs pass the step within those ahead."""
        return all([self.step.passing(ahead, one, row) == row for one, row in enumerate(rows)])

    def have_pair(self, rows, point, place):
        """Whether the pair of this point and this place is among them."""
        number = self.field.number_of_place(point[0])
        return rows[number] >> self.field.number_of_place(place) & 1 == 1


class PointPairs:
    """Pairs in the plain ways."""

    def __init__(self, field, way):
        self.field = field
        self.walk = PointWalk(field, way)

    def told_rows(self, value):
        """The rows of told pairs; None for any other value, and if a point has too many choices."""
        if not is_list(value):
            return None
        rows = {}
        for pair in value:
            if not _is_pair(self.field, pair):
                return None
            point = self.field.mask_of_places(pair[0])
            rows[point] = rows.get(point, 0) | 1 << self.field.number_of_place(pair[1])
        if not all([self.walk.has_few(point) for point in rows]):
            return None
        return rows

    def are_first(self, rows):
        """Whether all pairs pass round 0."""
        return all([rows[point] & ~first_mask(self.field, point) == 0 for point in rows])

    def are_stepping(self, rows, ahead):
        """Whether all pairs pass the step within those ahead."""
        return all([self._is_stepping(point, rows[point], ahead) for point in rows])

    def _is_stepping(self, point, places, ahead):
        for at in self.walk.turns:
            for led in self.walk.led(at, point):
                if places & ~self.walk.step.leading_to(at, ahead.get(led, 0)):
                    return False
        return True

    def have_pair(self, rows, point, place):
        """Whether the pair of this point and this place is among them."""
        row = rows.get(self.field.mask_of_places(point), 0)
        return row >> self.field.number_of_place(place) & 1 == 1


def _is_pair(field, value):
    """Whether any value is a pair of a point and a place."""
    if not is_list(value) or len(value) != 2:
        return False
    return is_point(field.rooms, value[0]) and is_place(field.rooms, value[1])


def are_closed_pairs(pairs, rows):
    """Whether pairs, read by PlacePairs or PointPairs, are closed."""
    return pairs.are_first(rows) and pairs.are_stepping(rows, rows)


def are_stages(pairs, stages):
    """Whether stages, so read, are right ones, in order."""
    for at, rows in enumerate(stages):
        if not pairs.are_first(rows):
            return False
        if at > 0 and not pairs.are_stepping(rows, stages[at - 1]):
            return False
    return True
