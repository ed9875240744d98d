import time

from sayable.likeness import is_like, likeness_pairs, parting_round
from sayable.reads import reading_of
from sayable.rooms import Room
from sayable.ways import is_way_below
from tests import plain
from tests.helpers import Case, ODD_VALUES, drawing, drawn_room, drawn_saying


def the_row():
    return Room(["a", "b", "c"], {"cup": ["a", "b", "c"], "red": ["b"]}, {"left": [("a", "b"), ("b", "c")]})


def one_stock(rng, most=4):
    """One to three small rooms of one stock."""
    words, links = rng.choice((0, 1, 2)), rng.choice((1, 1, 2))
    many = rng.choice((1, 1, 2, 3))
    return [drawn_room(rng, most if many == 1 else 2, words, links) for _ in range(many)]


class Likeness(Case):
    def test_examples(self):
        row = the_row()
        self.assertEqual([(one[1], other[1]) for one, other in likeness_pairs([row], "either")],
                         [("a", "a"), ("b", "b"), ("c", "a"), ("c", "b"), ("c", "c")])
        a, c = (0, "a"), (0, "c")
        self.assertEqual([is_like([row], "either", c, a), is_like([row], "either", a, c), is_like([row], "either", a, c, 0)],
                         [True, False, True])
        self.assertEqual([parting_round([row], way, c, a) for way in ("many", "every", "either.back", "not")], [None, 1, 1, 1])
        cups = Room(["x", "y", "u", "v", "w"], {"cup": ["u", "v", "w"]}, {"has": [("x", "u"), ("x", "v"), ("y", "w")]})
        self.assertEqual([parting_round([cups], way, (0, "x"), (0, "y")) for way in ("every", "many", "full")], [None, 1, 1])

    def test_greatest_closed_pairs(self):
        rng = drawing(41)
        for _ in range(60):
            rooms = one_stock(rng)
            for way in plain.TEN:
                self.assertEqual(list(likeness_pairs(rooms, way)), plain.likeness(rooms, way), (way, [str(room) for room in rooms]))

    def test_rounds(self):
        rng = drawing(42)
        for _ in range(25):
            rooms = one_stock(rng)
            pairs = plain.all_pairs(rooms)
            for way in plain.TEN:
                parted = {}
                for rounds in range(7):
                    like = plain.like_for(rooms, way, rounds)
                    self.assertEqual(list(likeness_pairs(rooms, way, rounds)), like)
                    for pair in pairs:
                        if pair not in like:
                            parted.setdefault(pair, rounds)
                for pair in rng.sample(pairs, min(4, len(pairs))):
                    self.check_pair(rooms, way, pair, parted.get(pair))

    def check_pair(self, rooms, way, pair, parted):
        found = parting_round(rooms, way, *pair)
        self.assertTrue(found == parted or (parted is None and (found is None or found > 6)))
        self.assertIs(is_like(rooms, way, *pair), found is None)
        for rounds in (0, 1, 5, 10 ** 40):
            self.assertIs(is_like(rooms, way, *pair, rounds), found is None or rounds < found)
            self.assertIs(is_like(rooms, way, *pair, rounds=rounds), pair in likeness_pairs(rooms, way, rounds))

    def test_later_rounds(self):
        things = [f"t{k}" for k in range(10)]
        path = Room(things, {}, {"l": list(zip(things, things[1:]))})
        for one in range(10):
            for other in range(10):
                wanted = None if one >= other else 10 - other
                self.assertEqual(parting_round([path], "either", (0, things[one]), (0, things[other])), wanted)
        self.assertEqual(likeness_pairs([path], "either"), likeness_pairs([path], "either", 9))
        self.assertEqual(likeness_pairs([path], "either"), likeness_pairs([path], "either", 10 ** 100))
        self.assertNotEqual(likeness_pairs([path], "either"), likeness_pairs([path], "either", 8))

    def test_things_that_compete_for_partners(self):
        """Each x has a partner, but they have too few together."""
        room = Room(["one", "other", "p", "q", "r", "s", "t", "u"], {"m": ["p", "s", "u"], "n": ["q", "s", "t"], "k": ["r", "t", "u"]},
                    {"l": [("one", "p"), ("one", "q"), ("one", "r"), ("other", "s"), ("other", "t"), ("other", "u")]})
        self.assertIsNone(parting_round([room], "many", (0, "one"), (0, "other")))
        self.assertEqual(parting_round([room], "full", (0, "one"), (0, "other")), 1)
        less = Room(room.things, {"m": ["p", "s"], "n": ["q", "s", "t", "u"], "k": ["r", "s"]}, room.link_lists())
        self.assertIsNone(parting_round([less], "either", (0, "one"), (0, "other")))
        self.assertEqual(parting_round([less], "many", (0, "one"), (0, "other")), 1)

    def test_facts(self):
        rng = drawing(43)
        for _ in range(20):
            rooms = one_stock(rng)
            places = plain.places(rooms)
            pairs = {way: set(likeness_pairs(rooms, way)) for way in plain.TEN}
            once = {way: set(likeness_pairs(rooms, way, 1)) for way in plain.TEN}
            for way in plain.TEN:
                self.assertTrue(all((one, one) in pairs[way] for one in places))
                self.assertTrue(all((one, last) in pairs[way] for one, other in pairs[way] for again, last in pairs[way] if again == other))
                if way.split(".")[0] in ("not", "full"):
                    self.assertTrue(all((other, one) in pairs[way] for one, other in pairs[way]))
                for below in plain.TEN:
                    if is_way_below(below, way):
                        self.assertTrue(pairs[way] <= pairs[below])
                        self.assertTrue(once[way] <= once[below])

    def test_what_sayings_fit(self):
        """What is like for r rounds is fitted by each saying, of depth at most r, that fits the one."""
        rng = drawing(44)
        for _ in range(12):
            rooms = one_stock(rng)
            if not rooms[0].words:
                continue
            for way in plain.TEN:
                for saying in plain.some_sayings(rng, rooms[0], way, 12, drawn_saying):
                    fitted = {(k, t) for k, room in enumerate(rooms) for t in reading_of(room, saying)}
                    for one, other in likeness_pairs(rooms, way, saying.depth):
                        self.assertTrue(one not in fitted or other in fitted)

    def test_lists_and_tuples(self):
        row = the_row()
        self.assertEqual(likeness_pairs((row,), "not"), likeness_pairs([row], "not"))
        self.assertIs(is_like((row,), "either", [0, "c"], (0, "a")), True)
        self.assertEqual(likeness_pairs([row, row], "not")[1], ((0, "a"), (1, "a")))


class Edges(Case):
    functions = (("likeness_pairs", lambda rooms, way, one, other, rounds: likeness_pairs(rooms, way, rounds)),
                 ("is_like", lambda rooms, way, one, other, rounds: is_like(rooms, way, one, other, rounds)),
                 ("parting_round", lambda rooms, way, one, other, rounds: parting_round(rooms, way, one, other)))

    def test_order_of_errors(self):
        row = the_row()
        many = [Room([f"t{k}" for k in range(40)], {}, {})] * 3
        for name, call in self.functions:
            for value in ODD_VALUES + (row, [row, None], {0: row}):
                self.raises(("BadBook", "rooms"), call, value, value, value, value, value)
            self.raises(("Unlike", "stock"), call, [row] * 65 + [row.cut([])], None, None, None, None)
            self.raises(("TooMany", "rooms", 64), call, [row] * 65, None, None, None, None)
            for value in ODD_VALUES + ("plain", "plain.back", "Every"):
                self.raises(("NoWay", value), call, [row], value, None, None, value)
                self.raises(("NoWay", value), call, many, value, None, None, value)
            if name != "likeness_pairs":
                for value in ODD_VALUES + ("a", (0,), (0, "a", 1), (1, "a"), (-1, "a"), (False, "a"), ("0", "a"), (0, "z"), (0, ["a"]),
                                           {0: "a"}, (0.0, "a")):
                    self.raises(("BadPlace", "one"), call, [row], "not", value, value, -1)
                    self.raises(("BadPlace", "other"), call, [row], "not", (0, "a"), value, -1)
                self.raises(("BadPlace", "other"), call, many, "not", (0, "t0"), (3, "t0"), None)
            if name != "parting_round":
                for value in (-1, True, False, "1", 1.0, [], [1], {}, -10 ** 30):
                    self.raises(("BadNumbers", "rounds"), call, [row], "not", (0, "a"), (0, "a"), value)
                    self.raises(("BadNumbers", "rounds"), call, many, "not", (0, "t0"), (0, "t0"), value)
            self.raises(("TooMany", "places", 100), call, many, "not", (0, "t0"), (0, "t0"), 5)

    def test_a_hundred_places(self):
        fifty = Room([f"t{k}" for k in range(25)], {}, {"l": []})
        self.assertEqual(len(likeness_pairs([fifty] * 4, "full.back")), 10000)
        self.raises(("TooMany", "places", 100), likeness_pairs, [fifty] * 4 + [Room(["a"], {}, {"l": []})], "either")
        one = Room(["a"], {}, {})
        self.assertEqual(len(likeness_pairs([one] * 64, "either")), 64 * 64)

    def test_soon_enough(self):
        start = time.time()
        rng = drawing(45)
        things = [f"t{k}" for k in range(40)]
        dense = Room(things, {}, {"l": [(t, u) for t in things for u in things if rng.random() < 0.5]})
        ring = [(things[k], things[(k + 1) % 19]) for k in range(19)] + [(things[19 + k], things[19 + (k + 1) % 21]) for k in range(21)]
        rings = Room(things, {"w": things[:1] + things[20:]}, {"l": ring})
        full = Room(things, {}, {"l": [(t, u) for t in things for u in things if (t, u) != ("t3", "t7")]})
        three = [Room(things[:8], {"w": things[:3]}, {f"l{k}": [(t, u) for t in things[:8] for u in things[:8] if rng.random() < 0.3]
                                                     for k in range(3)}) for _ in range(2)]
        flat = [Room(things[:33], {f"w{k}": things[k:k + 2] for k in range(9)},
                     {f"l{k}": [(t, u) for t in things[:12] for u in things[12:33]] for k in range(8)})] * 3
        for rooms in ([dense], [rings], [full], three, flat):
            for way in plain.TEN:
                likeness_pairs(rooms, way)
        self.assertEqual(parting_round([rings], "either", (0, "t1"), (0, "t20")), self.rings_part(1, 1))
        self.assertLess(time.time() - start, 60)

    def rings_part(self, one, other):
        """After how many steps the first ring stands at its red thing, and the second at the one that is not."""
        for steps in range(400):
            if (one + steps) % 19 == 0 and (other + steps) % 21 == 0:
                return steps
        return None
