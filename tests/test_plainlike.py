import time

from sayable.likeness import is_like, parting_round
from sayable.narrowest import narrowest_saying
from sayable.plainlike import is_like_point, point_parting, point_round
from sayable.points import points_met
from sayable.reads import reading_of, readings_in
from sayable.rooms import Room
from sayable.sayings import Saying
from sayable.ways import way_lets
from tests import plain
from tests.helpers import Case, ODD_VALUES, drawing, drawn_room
from tests.test_points import fan, the_pair
from tests.test_likeness import the_row


def drawn_rooms(rng, words=(0, 1, 2, 3), most=5):
    """One to three small rooms of one stock; often one alone whose things part late."""
    if rng.random() < 0.4:
        things = [f"t{k}" for k in range(rng.randint(3, most))]
        ties = [(t, u) for t in things for u in rng.sample(things, rng.choice((0, 1, 1, 1, 2)))]
        return [Room(things, {"w": things[:1], "v": rng.sample(things, rng.randint(2, 3))}, {"l": ties})]
    held, led = rng.choice(words), rng.choice((1, 1, 2))
    many, ties = rng.choice((1, 1, 2, 3)), rng.choice((0.2, 0.3, 0.4))
    return [drawn_room(rng, most if many == 1 else 2, held, led, ties=ties) for _ in range(many)]


def drawn_point(rng, rooms):
    places = plain.places(rooms)
    return tuple(place for place in places if rng.random() < 0.4) or (rng.choice(places),)


def fitted(rooms, saying):
    return {(index, thing) for index, crowd in enumerate(readings_in(rooms, saying)) for thing in crowd}


class PlainLikeness(Case):
    def test_examples(self):
        pair = the_pair()
        x, y, u = (0, "x"), (0, "y"), (0, "u")
        self.assertEqual([is_like_point([pair], [x, y], x), is_like_point([pair], [x, y], u), is_like_point([pair], [x, y], u, False, 0),
                          is_like_point([pair], [u, (0, "v")], (0, "w"))], [True, False, True, False])
        self.assertEqual([point_round([pair], [x, y], u), point_round([pair], [u, (0, "v")], (0, "w")),
                          point_round([pair], [(0, "v"), (0, "w")], x)], [1, 0, None])
        told = point_parting([pair], [x, y], u)
        self.assertEqual([told.depth, reading_of(pair, told), is_like_point([pair], [x], y), point_parting([pair], [x, y], y)],
                         [1, ("x", "y"), True, None])
        self.assertEqual([point_round([pair], [(0, "v"), (0, "w")], x, True),
                          point_parting([pair], [(0, "v"), (0, "w")], x, True).is_back], [1, True])

    def test_rounds(self):
        """Against pairs of all points that come about, round by round."""
        rng = drawing(91)
        later = 0
        for _ in range(120):
            rooms, back = drawn_rooms(rng), rng.random() < 0.5
            point = drawn_point(rng, rooms)
            rounds = plain.point_likes(rooms, "plain.back" if back else "plain", point)
            for place in plain.places(rooms):
                parted = next((at for at, pairs in enumerate(rounds) if (point, place) not in pairs), None)
                later += (parted or 0) > 1
                self.assertEqual(point_round(rooms, point, place, back), parted)
                self.assertIs(is_like_point(rooms, [list(one) for one in point], list(place), back), parted is None)
                for turn in (0, 1, 2, len(rounds), 10 ** 50):
                    self.assertIs(is_like_point(rooms, point, place, back, turn), parted is None or turn < parted)
        self.assertGreater(later, 5)

    def test_what_sayings_read(self):
        """Against the sets of places that plain sayings of each depth read to."""
        rng = drawing(92)
        for _ in range(60):
            rooms, back = drawn_rooms(rng), rng.random() < 0.5
            levels = plain.crowd_levels(rooms, "plain.back" if back else "plain")
            for point in {drawn_point(rng, rooms) for _ in range(4)}:
                for turn in range(len(levels) + 2):
                    level = levels[min(turn, len(levels) - 1)]
                    wanted = frozenset.intersection(*[crowd for crowd in level if crowd >= set(point)])
                    like = {place for place in plain.places(rooms) if is_like_point(rooms, point, place, back, turn)}
                    self.assertEqual(like, wanted)
                    self.assertEqual(fitted(rooms, narrowest_saying(rooms, point, turn, back)), wanted)

    def test_partings(self):
        rng = drawing(93)
        made = 0
        for _ in range(80):
            rooms, back = drawn_rooms(rng, (0, 1, 1, 2)), rng.random() < 0.5
            way = "plain.back" if back else "plain"
            point = drawn_point(rng, rooms)
            for place in plain.places(rooms):
                parted = point_round(rooms, point, place, back)
                saying = point_parting(rooms, point, place, back)
                if parted is None:
                    self.assertIsNone(saying)
                    continue
                made += parted > 0
                self.assertIsInstance(saying, Saying)
                self.assertTrue(way_lets(way, saying))
                self.assertEqual(saying.depth, parted)
                self.assertLessEqual(set(point), fitted(rooms, saying))
                self.assertNotIn(place, fitted(rooms, saying))
                self.assertEqual(point_parting(tuple(rooms), [list(one) for one in point], list(place), back), saying)
        self.assertGreater(made, 30)

    def test_points_of_one_place(self):
        rng = drawing(94)
        for _ in range(60):
            rooms = drawn_rooms(rng)
            for one in plain.places(rooms):
                for other in plain.places(rooms):
                    for back, way in ((False, "either"), (True, "either.back")):
                        self.assertEqual(point_round(rooms, [one], other, back), parting_round(rooms, way, one, other))
                        for turn in (0, 1, 3):
                            self.assertIs(is_like_point(rooms, [one], other, back, turn), is_like(rooms, way, one, other, turn))

    def test_facts(self):
        rng = drawing(95)
        for _ in range(60):
            rooms, back = drawn_rooms(rng), rng.random() < 0.5
            point = drawn_point(rng, rooms)
            more = plain.in_order(rooms, point + drawn_point(rng, rooms))
            for place in plain.places(rooms):
                if place in point:
                    self.assertIsNone(point_round(rooms, point, place, back))
                less, greater = point_round(rooms, point, place, back), point_round(rooms, more, place, back)
                self.assertTrue(greater is None or (less is not None and less <= greater))

    def test_later_rounds(self):
        """Two rings: they part where the first stands at its red thing and the second does not."""
        things = [f"t{k}" for k in range(7)]
        rings = Room(things, {"red": ["t0"]}, {"l": [(things[k], things[(k + 1) % 3]) for k in range(3)]
                                               + [(things[3 + k], things[3 + (k + 1) % 4]) for k in range(4)]})
        self.assertEqual(point_round([rings], [(0, "t1")], (0, "t3")), 2)
        chain = Room(things, {"red": ["t6"]}, {"l": list(zip(things, things[1:]))})
        self.assertEqual(point_round([chain], [(0, "t0")], (0, "t1")), 6)
        self.assertEqual(point_round([chain], [(0, "t0"), (0, "t1")], (0, "t2")), 5)
        self.assertEqual(point_parting([chain], [(0, "t0"), (0, "t1")], (0, "t2")).depth, 5)
        self.assertIsNone(point_round([chain], [(0, "t3"), (0, "t6")], (0, "t2")))


    def test_links_are_read_on_where_nothing_is_told(self):
        pair, v, w, x = the_pair(), (0, "v"), (0, "w"), (0, "x")
        self.assertIs(is_like_point([pair], [v, w], x), True)
        self.assertIs(is_like_point([pair], [v, w], x, True), False)
        self.assertIsNone(point_parting([pair], [v, w], x))
        self.assertEqual(fitted([pair], narrowest_saying([pair], [v, w], 2)), {(0, t) for t in "xyuvw"})
        self.assertEqual(fitted([pair], narrowest_saying([pair], [v, w], 2, True)), {(0, t) for t in "uvw"})


class Narrowest(Case):
    def test_examples(self):
        pair, x, y = the_pair(), (0, "x"), (0, "y")
        self.assertEqual([reading_of(pair, narrowest_saying([pair], [x, y], 0)), reading_of(pair, narrowest_saying([pair], [x, y], 1))],
                         [("x", "y", "u", "v", "w"), ("x", "y")])
        self.assertEqual([reading_of(pair, narrowest_saying([pair], [x], 1)),
                          reading_of(pair, narrowest_saying([pair], [(0, "v"), (0, "w")], 2, True))], [("x", "y"), ("u", "v", "w")])

    def test_each_depth(self):
        rng = drawing(96)
        for _ in range(60):
            rooms, back = drawn_rooms(rng), rng.random() < 0.5
            point = drawn_point(rng, rooms)
            for depth in (0, 1, 2, 3, 12):
                saying = narrowest_saying(rooms, point, depth, back)
                self.assertIsInstance(saying, Saying)
                self.assertTrue(way_lets("plain.back" if back else "plain", saying))
                self.assertLessEqual(saying.depth, depth)
                like = {place for place in plain.places(rooms) if is_like_point(rooms, point, place, back, depth)}
                self.assertEqual(fitted(rooms, saying), like)
                self.assertEqual(narrowest_saying(tuple(rooms), [list(one) for one in point], depth, back), saying)

    def test_depths(self):
        things = [f"t{k}" for k in range(16)]
        chain = Room(things, {"red": ["t15"]}, {"l": list(zip(things, things[1:]))})
        self.assertEqual(len(reading_of(chain, narrowest_saying([chain], [(0, "t0")], 12))), 4)
        self.assertEqual(narrowest_saying([chain], [(0, "t0")], 12).depth, 12)
        for value in (13, -1, True, False, None, "1", 1.0, [], 10 ** 40):
            self.raises(("BadNumbers", "depth"), narrowest_saying, [chain], [(0, "t0")], value)
        self.assertEqual(narrowest_saying([chain], [(0, "t0")], 0).depth, 0)


class Edges(Case):
    functions = (("is_like_point", lambda rooms, point, place, last, back=False: is_like_point(rooms, point, place, back, last)),
                 ("point_round", lambda rooms, point, place, last, back=False: point_round(rooms, point, place, back)),
                 ("point_parting", lambda rooms, point, place, last, back=False: point_parting(rooms, point, place, back)),
                 ("narrowest_saying", lambda rooms, point, place, last, back=False: narrowest_saying(rooms, point, last, back)))

    def test_order_of_errors(self):
        pair, x, y = the_pair(), (0, "x"), (0, "y")
        many = [Room([f"t{k}" for k in range(40)], {}, {})] * 3
        for name, call in self.functions:
            for value in ODD_VALUES + (pair, [pair, 5]):
                self.raises(("BadBook", "rooms"), call, value, value, value, "no")
            self.raises(("Unlike", "stock"), call, [pair] * 65 + [pair.cut([])], None, None, "no")
            self.raises(("TooMany", "rooms", 64), call, [pair] * 65, None, None, "no")
            for value in ODD_VALUES + (x, [x, x], [y, x], [x, None], [(1, "x")], [(0, "z")], [(True, "x")], {x: 1}, "x", [[x]]):
                self.raises(("BadPlace", "point"), call, [pair], value, value, "no")
                self.raises(("BadPlace", "point"), call, many, value, value, "no")
            if name != "narrowest_saying":
                for value in ODD_VALUES + ("x", (0,), (0, "x", 1), (1, "x"), (-1, "x"), (False, "x"), (0, "z"), (0, ["x"]), [x]):
                    self.raises(("BadPlace", "place"), call, [pair], [x], value, "no")
                    self.raises(("BadPlace", "place"), call, many, [(0, "t0")], value, "no")
            last = {"is_like_point": "rounds", "narrowest_saying": "depth"}.get(name)
            if last:
                for value in (-1, True, False, "1", 1.0, [], {}, -10 ** 30):
                    self.raises(("BadNumbers", last), call, [pair], [x], y, value)
                    self.raises(("BadNumbers", last), call, many, [(0, "t0")], (0, "t0"), value)
            self.raises(("TooMany", "places", 100), call, many, [(0, "t0")], (0, "t0"), 0)
        hundred = [many[0].kept([f"t{k}" for k in range(25)])] * 4
        self.assertIsNone(point_round(hundred, [(3, "t0")], (0, "t1")))

    def test_too_many(self):
        """All points that come about count, whatever is asked."""
        roots = [(0, "r"), (1, "r"), (2, "r")]
        choices = [fan({"l": range(35)}), fan({"l": range(11)}), fan({"l": range(13)})]
        points = [fan({"l": range(10)}), fan({"l": range(20)}), fan({"l": range(25)})]
        enough = [fan({"l": range(many)}) for many in (16, 16, 19)]
        for _, call in self.functions:
            for place in (roots[0], (0, "h0")):
                self.raises(("TooMany", "choices", 5000), call, choices, roots, place, 0)
                self.raises(("TooMany", "points", 5000), call, points, roots, place, 0)
                self.assertIsNone(self.told(call, choices, roots[:2], place, 0))
                self.assertIsNone(self.told(call, enough, roots, place, 0))
                self.assertIsNone(self.told(call, points, [(0, "h0")], place, 0))
        # The heads lead back to the roots: one more place beside them bars this.
        self.raises(("TooMany", "choices", 5000), point_round, choices, [(0, "h0"), (1, "h0"), (2, "h0")], roots[0], True)
        self.assertIsNone(self.told(point_round, choices, [(0, "h0"), (1, "h0"), (2, "h0")], roots[0], False))
        self.assertEqual(len(list(points_met(enough, roots))), 16 * 16 * 19 + 1)

    def test_soon_enough(self):
        start = time.time()
        rng = drawing(97)
        things = [f"t{k}" for k in range(6)]
        for _ in range(30):
            room = Room(things, {"w": things[:rng.randint(0, 2)]},
                        {f"l{k}": [(t, u) for t in things for u in things if rng.random() < rng.choice((0.2, 0.5))] for k in range(3)})
            for back in (False, True):
                for point in ([(0, t) for t in things], [(0, t) for t in things[:2]]):
                    for place in plain.places([room]):
                        point_parting([room], point, place, back)
                    narrowest_saying([room], point, 12, back)
        sources, sinks = [f"s{k}" for k in range(17)], [f"t{k}" for k in range(12)]
        flat = Room(sources + sinks, {"w": sinks[:3]}, {f"l{k}": [(t, u) for t in sources for u in sinks if t[1:] != u[1:]] for k in range(8)})
        for back in (False, True):
            self.told(point_parting, [flat], [(0, t) for t in sources[:3]], (0, "t5"), back)
            narrowest_saying([flat], [(0, t) for t in sources[:3]], 5, back)
        self.assertLess(time.time() - start, 60)

    def test_rows(self):
        """In the row only b is red: it parts from a and c by the word."""
        row = the_row()
        self.assertEqual([point_round([row], [(0, "b")], (0, t)) for t in "abc"], [0, None, 0])
        self.assertEqual([point_round([row], [(0, "a"), (0, "b")], (0, t)) for t in "abc"], [None, None, 1])
