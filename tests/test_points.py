import time

from sayable.points import point_leads, point_words, points_met
from sayable.rooms import Room
from tests import plain
from tests.helpers import Case, ODD_VALUES, drawing, drawn_room
from tests.test_likeness import the_row


def the_pair():
    return Room(["x", "y", "u", "v", "w"], {"cup": ["u", "v"], "red": ["u", "w"]},
                {"has": [("x", "u"), ("x", "v"), ("y", "u"), ("y", "w")]})


def fan(links, prefix="h"):
    """A room in which root r leads, by each link, to the heads with the told numbers."""
    heads = [f"{prefix}{k}" for k in range(1 + max([n for numbers in links.values() for n in numbers], default=0))]
    return Room(["r", *heads], {}, {link: [("r", heads[n]) for n in links[link]] for link in links})


class Points(Case):
    def test_examples(self):
        pair = the_pair()
        x, y, u = (0, "x"), (0, "y"), (0, "u")
        self.assertEqual(point_leads([pair], [x, y], "has"), (((0, "u"),), ((0, "u"), (0, "v")), ((0, "u"), (0, "w")), ((0, "v"), (0, "w"))))
        self.assertEqual([point_words([pair], [u, (0, "v")]), point_words([pair], [(0, "v"), (0, "w")]),
                          len(list(points_met([pair], [x, y]))), point_leads([pair], [x, u], "has")], [("cup",), (), 5, ()])
        self.assertEqual([point_leads([pair], [u, (0, "w")], "has", True), list(points_met([pair, pair], [[1, "w"]], True))],
                         [(((0, "x"), (0, "y")), ((0, "y"),)), [((1, "w"),), ((1, "y"),), ((1, "u"),), ((1, "x"),), ((1, "v"),)]])
        self.raises(("BadPlace", "point"), point_words, [pair], [y, x])

    def test_drawn(self):
        rng = drawing(81)
        for _ in range(120):
            many = rng.choice((1, 2, 3))
            rooms = [drawn_room(rng, 4 if many == 1 else 2, 2, 2) for _ in range(many)]
            places = plain.places(rooms)
            point = [place for place in places if rng.random() < 0.5] or places[-1:]
            words = [w for w in rooms[0].words if all(rooms[k].holds(w, t) for k, t in point)]
            self.assertEqual(point_words(rooms, point), tuple(words))
            for link in rooms[0].links:
                for back in (False, True):
                    self.assertEqual(list(point_leads(rooms, tuple(point), link, back)), plain.point_leads(rooms, point, link, back))
            for back in (False, True):
                self.assertEqual(list(points_met(tuple(rooms), [list(place) for place in point], back)),
                                 plain.points_met(rooms, point, back))
            self.assertEqual(list(points_met(rooms, point)), plain.points_met(rooms, point, False))

    def test_order_of_points(self):
        room = Room(["b", "a", "c"], {}, {"l": [("b", "b"), ("b", "c"), ("a", "a"), ("a", "c"), ("a", "b")]})
        led = point_leads([room], [(0, "b"), (0, "a")], "l")
        self.assertEqual(["".join(t for _, t in point) for point in led], ["b", "ba", "bc", "ac", "c"])

    def test_choices(self):
        five_thousand = [fan({"l": range(10)}), fan({"l": range(20)}), fan({"l": range(25)})]
        roots = [(0, "r"), (1, "r"), (2, "r")]
        self.assertEqual(len(point_leads(five_thousand, roots, "l")), 5000)
        more = [fan({"l": range(35)}), fan({"l": range(11)}), fan({"l": range(13)})]
        self.raises(("TooMany", "choices", 5000), point_leads, more, roots, "l")
        self.raises(("TooMany", "choices", 5000), lambda: list(points_met(more, roots)))
        self.assertEqual(point_leads(more, roots, "l", True), ())
        things = [f"t{k}" for k in range(40)]
        same = Room(things, {}, {"l": [(t, u) for t in things[:3] for u in things[3:3 + {"t0": 10, "t1": 20, "t2": 25}[t]]]})
        self.assertEqual(len(list(points_met([same], [(0, t) for t in things[:3]]))), 1 + len(point_leads([same], [(0, t) for t in things[:3]], "l")))
        none = Room(things, {}, {"l": [(t, u) for t in things[:20] for u in things[20:]]})
        self.assertEqual(point_leads([none], [(0, t) for t in things[:21]], "l"), ())
        self.raises(("TooMany", "choices", 5000), point_leads, [none], [(0, t) for t in things[:20]], "l")

    def three(self, **sizes):
        """Three rooms whose roots lead, by each link, to as many heads as told, each link to others in the third."""
        rooms = []
        for at in range(3):
            links, start = {}, 0
            for link in sorted(sizes):
                many = sizes[link][at]
                links[link] = range(start, start + many) if at == 2 else range(many)
                start += many
            rooms.append(fan(links))
        return rooms

    def test_points_at_the_bound(self):
        roots = [(0, "r"), (1, "r"), (2, "r")]
        full = self.three(k=(16, 16, 19), l=(5, 27, 1), m=(0, 0, 0))
        self.assertEqual(len(list(points_met(full, roots))), 5000)
        self.raises(("TooMany", "points", 5000), lambda: list(points_met(self.three(k=(16, 16, 19), l=(5, 27, 1), m=(1, 1, 1)), roots)))
        self.raises(("TooMany", "points", 5000), lambda: list(points_met(self.three(k=(10, 20, 25), l=(0, 0, 0)), roots)))
        self.raises(("TooMany", "points", 5000), lambda: list(points_met(self.three(k=(10, 20, 25), l=(39, 13, 13)), roots)))
        self.raises(("TooMany", "choices", 5000), lambda: list(points_met(self.three(k=(39, 13, 13), l=(10, 20, 25)), roots)))
        self.assertEqual(len(point_leads(self.three(k=(10, 20, 25), l=(0, 0, 0)), roots, "k")), 5000)
        self.assertEqual(point_words(self.three(k=(39, 13, 13)), roots), ())

    def test_errors(self):
        pair, x, y = the_pair(), (0, "x"), (0, "y")
        many = [Room([f"t{k}" for k in range(40)], {}, {"has": []})] * 3
        calls = (lambda rooms, point, link: list(points_met(rooms, point)), lambda rooms, point, link: point_words(rooms, point),
                 lambda rooms, point, link: point_leads(rooms, point, link))
        for call in calls:
            for value in ODD_VALUES + (pair, [pair, 5]):
                self.raises(("BadBook", "rooms"), call, value, value, value)
            for value in ODD_VALUES + (x, [x, x], [y, x], [x, None], [(1, "x")], [(0, "z")], [(True, "x")], {x: 1}, [(0, "x", 0)], "x",
                                       [(0, ["x"])], [[x]], [x, y, x]):
                self.raises(("BadPlace", "point"), call, [pair], value, None)
                self.raises(("BadPlace", "point"), call, many, value, None)
            self.raises(("Unlike", "stock"), call, [pair, pair.cut([])], None, None)
            self.raises(("TooMany", "rooms", 64), call, [pair] * 65, None, None)
            self.raises(("TooMany", "places", 100), call, many, [(0, "t0")], "has")
        for value in ODD_VALUES + ("left", "cup"):
            self.raises(("NoLink", value), point_leads, many, [(0, "t0")], value)
        hundred = [many[0].kept([f"t{k}" for k in range(25)])] * 4
        self.assertEqual(list(points_met(hundred, [(3, "t0")])), [((3, "t0"),)])
        self.raises(("BadPlace", "point"), point_words, [pair, pair], [(1, "x"), (0, "x")])

    def test_errors_come_ahead_of_the_first_point(self):
        rooms = self.three(k=(10, 20, 25), l=(39, 13, 13))
        with self.assertRaises(Exception):
            next(iter(points_met(rooms, [(0, "r"), (1, "r"), (2, "r")])))
        self.assertEqual(next(iter(points_met([the_row()], [(0, "a")]))), ((0, "a"),))

    def test_soon_enough(self):
        start = time.time()
        rng = drawing(82)
        things = [f"t{k}" for k in range(6)]
        for _ in range(20):
            room = Room(things, {}, {f"l{k}": [(t, u) for t in things for u in things if rng.random() < 0.4] for k in range(3)})
            for back in (False, True):
                self.told(lambda: list(points_met([room], [(0, t) for t in things], back)))
        forty = [f"t{k}" for k in range(40)]
        flat = Room(forty, {}, {f"l{k}": [(t, u) for t in forty[:12] for u in rng.sample(forty[12:], 2)] for k in range(8)})
        self.told(lambda: list(points_met([flat], [(0, t) for t in forty[:9]])))
        self.assertLess(time.time() - start, 30)
