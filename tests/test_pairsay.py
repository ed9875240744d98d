import time

from sayable.likeness import likeness_pairs, parting_round
from sayable.pairsay import parting_saying
from sayable.reads import does_fit, reading_of
from sayable.rooms import Room
from sayable.sayings import Saying
from sayable.ways import way_lets
from tests import plain
from tests.helpers import Case, ODD_VALUES, drawing
from tests.test_likeness import one_stock, the_row


class PartingSayings(Case):
    def test_examples(self):
        row, a, c = the_row(), (0, "a"), (0, "c")
        found = parting_saying([row], "every", c, a)
        self.assertEqual([found.depth, does_fit(row, found, "c"), does_fit(row, found, "a"), parting_saying([row], "many", c, a)],
                         [1, True, False, None])
        cups = Room(["x", "y", "u", "v", "w"], {"cup": ["u", "v", "w"]}, {"has": [("x", "u"), ("x", "v"), ("y", "w")]})
        two = parting_saying([cups], "many", (0, "x"), (0, "y"))
        self.assertEqual([two.depth, does_fit(cups, two, "x"), does_fit(cups, two, "y")], [1, True, False])

    def check(self, rooms, way, one, other, parted):
        saying = parting_saying(rooms, way, one, other)
        if parted is None:
            self.assertIsNone(saying)
            return
        self.assertIsInstance(saying, Saying)
        self.assertTrue(way_lets(way, saying), (way, str(saying)))
        self.assertEqual(saying.depth, parted)
        self.assertTrue(does_fit(rooms[one[0]], saying, one[1]))
        self.assertFalse(does_fit(rooms[other[0]], saying, other[1]))
        self.assertEqual(parting_saying(tuple(rooms), way, list(one), list(other)), saying)

    def test_all_pairs(self):
        rng = drawing(51)
        for _ in range(40):
            rooms = one_stock(rng, 5)
            for way in plain.TEN:
                like = set(plain.likeness(rooms, way))
                pairs = plain.all_pairs(rooms)
                for pair in rng.sample(pairs, min(6, len(pairs))):
                    parted = parting_round(rooms, way, *pair)
                    self.assertEqual(parted is None, pair in like)
                    self.check(rooms, way, *pair, parted)

    def test_greater_rooms(self):
        rng = drawing(54)
        for _ in range(12):
            things = [f"t{k}" for k in range(9)]
            ties = {f"l{k}": [(t, u) for t in things for u in things if rng.random() < 0.2] for k in range(2)}
            room = Room(things, {"w": things[:2]}, ties)
            for way in plain.TEN:
                for pair in rng.sample(plain.all_pairs([room]), 8):
                    self.check([room], way, *pair, parting_round([room], way, *pair))

    def test_competing_for_partners(self):
        rng = drawing(52)
        for _ in range(40):
            things = ["one", "other"] + [f"x{k}" for k in range(4)] + [f"y{k}" for k in range(5)]
            words = {f"w{k}": [t for t in things[2:] if rng.random() < 0.5] for k in range(4)}
            words["v"] = things[6:]
            ties = [("one", f"x{k}") for k in range(4)] + [("other", f"y{k}") for k in range(rng.randint(3, 5))]
            room = Room(things, words, {"l": ties})
            for way in ("many", "full", "many.back", "full.back"):
                for one, other in (("one", "other"), ("other", "one"), ("x0", "y0"), ("y0", "x1")):
                    parted = parting_round([room], way, (0, one), (0, other))
                    self.check([room], way, (0, one), (0, other), parted)

    def test_errors(self):
        row = the_row()
        many = [Room([f"t{k}" for k in range(40)], {}, {})] * 3
        for value in ODD_VALUES + (row, [None]):
            self.raises(("BadBook", "rooms"), parting_saying, value, None, None, None)
            self.raises(("NoWay", value), parting_saying, [row], value, None, None)
            self.raises(("BadPlace", "one"), parting_saying, many, "not", value, value)
            self.raises(("BadPlace", "other"), parting_saying, many, "not", (0, "t0"), value)
        self.raises(("Unlike", "stock"), parting_saying, [row, row.cut([])], "plain", None, None)
        self.raises(("TooMany", "rooms", 64), parting_saying, [row] * 65, "plain", None, None)
        for way in ("plain", "plain.back"):
            self.raises(("NoWay", way), parting_saying, many, way, None, None)
        self.raises(("TooMany", "places", 100), parting_saying, many, "not", [0, "t0"], [2, "t0"])

    def test_soon_enough(self):
        start = time.time()
        rng = drawing(53)
        things = [f"t{k}" for k in range(40)]
        ring = [(things[k], things[(k + 1) % 19]) for k in range(19)] + [(things[19 + k], things[19 + (k + 1) % 21]) for k in range(21)]
        rings = Room(things, {"w": things[:1] + things[20:]}, {"l": ring})
        dense = Room(things, {}, {"l": [(t, u) for t in things for u in things if rng.random() < 0.3]})
        path = Room(things, {}, {"l": list(zip(things, things[1:]))})
        deepest = 0
        for room in (rings, dense, path):
            for way in plain.TEN:
                like = set(likeness_pairs([room], way))
                apart = [pair for pair in plain.all_pairs([room]) if pair not in like]
                for one, other in rng.sample(apart, min(4, len(apart))):
                    parted = parting_round([room], way, one, other)
                    deepest = max(deepest, parted)
                    self.check([room], way, one, other, parted)
        self.assertGreater(deepest, 100)
        self.assertLess(time.time() - start, 60)
