"""Points as masks of places: where links lead from them, and which come about."""

from sayable.alike import Step
from sayable.bits import bits_of, count_of
from sayable.errors import TooMany

MOST_CHOICES = 5000
MOST_POINTS = 5000


def has_few_choices(heads):
    """Whether the choices are no more than may be; the heads of each place are told as a mask."""
    choices = 1
    for mask in heads:
        choices = choices * count_of(mask)
    return choices <= MOST_CHOICES


def led_points(heads):
    """The points that are made by choosing one of each of the heads, each once, in a fixed order."""
    if not has_few_choices(heads):
        raise TooMany("choices", MOST_CHOICES)
    if 0 in heads:
        return []
    made = [0]
    for mask in heads:
        row = [1 << head for head in bits_of(mask)]
        # Many choices make the same point: each is kept once, from the first place on.
        made = list({one | bit: True for one in made for bit in row})
    return made


def in_order(points):
    """The points, as masks, in the order of points."""
    return sorted(points, key=bits_of)


def _is_least(heads, point):
    """Whether a point that is made by choosing from the heads needs each of its places."""
    needed = 0
    for mask in heads:
        shared = mask & point
        if shared & (shared - 1) == 0:
            needed = needed | shared
    return needed == point


class PointWalk:
    """Where the links of a field, as a plain way reads them, lead from points."""

    def __init__(self, field, way):
        self.step = Step(field, way)
        self.turns = list(range(len(self.step.links_read)))
        # Points whose places have the same heads are led to the same points.
        self._led = {}
        self._least = {}
        self._webs = {}

    def heads_of(self, at, point):
        """The heads of the places of a point by the link with this number, as a tuple of masks."""
        rows = self.step.heads[at]
        return tuple(sorted([rows[number] for number in bits_of(point)]))

    def led(self, at, point):
        """The points to which the link with this number leads from a point."""
        heads = self.heads_of(at, point)
        if heads not in self._led:
            self._led[heads] = led_points(heads)
        return self._led[heads]

    def least_led(self, at, point):
        """Those of them that have no other one within them: what is like these is like all."""
        heads = self.heads_of(at, point)
        if heads not in self._least:
            self._least[heads] = [one for one in self.led(at, point) if _is_least(heads, one)]
        return self._least[heads]

    def has_few(self, point):
        """Whether the point has no more choices than may be, by each link."""
        return all([has_few_choices(self.heads_of(at, point)) for at in self.turns])

    def web(self, point):
        """The PointWeb of a point: no word counts for it, so one serves whatever words there are."""
        if point not in self._webs:
            self._webs[point] = PointWeb(self, point)
        return self._webs[point]


class PointWeb:
    """The points that come about from a point, and to which of them links lead from each."""

    def __init__(self, walk, point):
        self.walk = walk
        self.met = points_about(walk, point)
        self.numbers = {one: number for number, one in enumerate(self.met)}
        self.leading = [[self._least_numbers(at, one) for at in walk.turns] for one in self.met]
        self.led_from = _turned(self.leading)

    def _least_numbers(self, at, point):
        return [self.numbers[led] for led in self.walk.least_led(at, point)]


def _turned(leading):
    """For each number those whose rows lead to it, ascending."""
    found = [[] for _ in leading]
    for number, row in enumerate(leading):
        for led in sorted({one for ones in row for one in ones}):
            found[led].append(number)
    return found


def first_mask(field, point):
    """The places of which each word holds that holds of the point."""
    mask = field.whole
    for word in field.words:
        held = field.word_mask(word)
        if point & ~held == 0:
            mask = mask & held
    return mask


def points_about(walk, point):
    """The points that come about from a point, in the order in which they are met."""
    met = [point]
    known = {point: True}
    turn = 0
    while turn < len(met):
        now = met[turn]
        for at in walk.turns:
            fresh = [one for one in walk.led(at, now) if one not in known]
            for one in in_order(fresh):
                if len(met) == MOST_POINTS:
                    raise TooMany("points", MOST_POINTS)
                known[one] = True
                met.append(one)
        turn += 1
    return met


def point_table(field, web):
    """For each point of a web and each place the round at which the pair parts; None if it never does."""
    like = [first_mask(field, point) for point in web.met]
    table = [[None if mask >> place & 1 else 0 for place in range(field.many)] for mask in like]
    turn = 0
    waiting = list(range(len(web.met)))
    while waiting:
        turn += 1
        # A pair can part only now if what it leads to parted in the round before.
        passed = {number: _passing(web, like, number) for number in waiting}
        turned = [number for number in waiting if passed[number] != like[number]]
        for number in turned:
            for place in bits_of(like[number] & ~passed[number]):
                table[number][place] = turn
            like[number] = passed[number]
        waiting = sorted({one for number in turned for one in web.led_from[number]})
    return table


def _passing(web, like, number):
    """Those of the places like a point that pass the step with it, within what is like where it leads."""
    places = like[number]
    for at in web.walk.turns:
        for led in web.leading[number][at]:
            if places:
                places = places & web.walk.step.leading_to(at, like[led])
    return places
