import time

from sayable.groups import groups_alike
from sayable.rooms import Room
from sayable.stable import is_apart, stable_classes
from tests import plain, plain_compare
from tests.helpers import Case, ODD_VALUES, drawing, drawn_room

FOUR = ("not", "full", "not.back", "full.back")


def two_rooms():
    return [Room(["a", "b"], {}, {}, {"size": {"a": 5, "b": 3}}), Room(["a", "b"], {}, {}, {"size": {"a": 2, "b": 2}})]


def drawn_scaled(rng, most=6):
    """One to three rooms of one stock, of at most so many places together, mostly with scales."""
    while True:
        words, links, scales = rng.choice((0, 0, 1)), rng.choice((0, 1, 1)), rng.choice((0, 1, 1, 2))
        rooms = [drawn_room(rng, rng.choice((2, 3, 5)), words, links, scales, ties=0.3) for _ in range(rng.randint(1, 3))]
        if rng.random() < 0.4:
            # The same room once more, its things in another order, and its numbers moved.
            room, names = rooms[0], {t: f"u{t}" for t in rooms[0]}
            things = rng.sample(room.things, len(room))
            numbers = {scale: {t: 3 * told[t] + 1 for t in told} for scale, told in room.scale_dicts().items()}
            rooms = [room, Room(things, room.word_lists(), room.link_lists(), numbers).renamed(names)]
        if sum(len(room) for room in rooms) <= most:
            return rooms


class StableClasses(Case):
    def test_examples(self):
        rooms = two_rooms()
        self.assertEqual(stable_classes(rooms, "not"), (((0, "a"), (1, "a"), (1, "b")), ((0, "b"),)))
        self.assertEqual([is_apart(rooms, "full", (0, "a"), (1, "b")), is_apart(rooms, "full", (0, "a"), (0, "b"))], [False, True])

    def test_against_all_crowds_that_are_said(self):
        rng = drawing(201)
        mixed = 0
        for _ in range(60):
            rooms = drawn_scaled(rng)
            for way in FOUR:
                classes = stable_classes(tuple(rooms), way)
                self.assertEqual(classes, plain_compare.least_crowds(plain_compare.crowds_compared(rooms, way), rooms), [str(r) for r in rooms])
                self.assertTrue(plain_compare.is_stable(rooms, way, classes))
                mixed += 1 < len(classes) < len(plain.places(rooms))
                for one in plain.places(rooms):
                    for other in plain.places(rooms):
                        wanted = not any(one in group and other in group for group in classes)
                        self.assertIs(is_apart(rooms, way, list(one), other), wanted)
        self.assertGreater(mixed, 60)

    def test_against_all_partings(self):
        """Each stable parting has its classes within those of the coarsest one, which is stable."""
        rng = drawing(202)
        many = 0
        for _ in range(60):
            rooms = drawn_scaled(rng, 5)
            way = rng.choice(FOUR)
            classes = stable_classes(rooms, way)
            stable = [told for told in plain_compare.partings(plain.places(rooms)) if plain_compare.is_stable(rooms, way, told)]
            many += len(stable)
            self.assertIn(sorted(map(sorted, classes)), [sorted(sorted(group) for group in told) for told in stable])
            for told in stable:
                self.assertTrue(all(any(set(group) <= set(coarse) for coarse in classes) for group in told))
        self.assertGreater(many, 150)

    def test_numbers_moved_in_order(self):
        rng = drawing(203)
        for _ in range(40):
            rooms = drawn_scaled(rng, 9)
            moved = []
            for room in rooms:
                scales = {}
                for scale in room.scales:
                    told = sorted({room.number_of(scale, t) for t in room} - {None})
                    fresh = dict(zip(told, sorted(rng.sample(range(-999999999, 999999999), len(told)))))
                    scales[scale] = {t: fresh[room.number_of(scale, t)] for t in room if room.number_of(scale, t) is not None}
                moved.append(Room(room.things, room.word_lists(), room.link_lists(), scales))
            for way in FOUR:
                self.assertEqual(stable_classes(moved, way), stable_classes(rooms, way))

    def test_without_scales_the_groups(self):
        rng = drawing(204)
        for _ in range(40):
            rooms = [room.cut(scales=[]) for room in drawn_scaled(rng, 12)]
            for way in FOUR:
                self.assertEqual(stable_classes(rooms, way), groups_alike(rooms, way))

    def test_scales_that_tell_nothing(self):
        bare = Room(["a", "b", "c"], {}, {})
        for scale in ({}, {"a": 7, "b": 7, "c": 7}):
            room = Room(bare.things, {}, {}, {"s": scale})
            for way in FOUR:
                self.assertEqual(stable_classes([room], way), (((0, "a"), (0, "b"), (0, "c")),))
                self.assertEqual(stable_classes([room, room], way), (tuple((k, t) for k in (0, 1) for t in "abc"),))
        some = Room(bare.things, {}, {}, {"s": {"b": -1}})
        self.assertEqual(stable_classes([some], "not"), (((0, "a"), (0, "c")), ((0, "b"),)))

    def test_what_stands_in_one_room_alone(self):
        """A third place below parts nothing where the two above are; a third one above does."""
        high = Room(["a", "b"], {"w": ["a"]}, {}, {"s": {"a": 1, "b": 0}})
        more = Room(["a", "b", "c"], {"w": ["a"]}, {}, {"s": {"a": 1, "b": 0, "c": -5}})
        self.assertIs(is_apart([high, more], "not", (0, "a"), (1, "a")), False)
        self.assertIs(is_apart([high, more], "not", (0, "b"), (1, "b")), False)
        over = Room(["a", "b", "c"], {"w": ["a"]}, {}, {"s": {"a": 1, "b": 0, "c": 5}})
        self.assertIs(is_apart([high, over], "not", (0, "a"), (1, "a")), True)

    def test_errors(self):
        rooms = two_rooms()
        wide = Room([f"t{k}" for k in range(34)], {}, {}, {"size": {}})
        for value in ODD_VALUES + (rooms[0], [rooms[0], None]):
            self.raises(("BadBook", "rooms"), stable_classes, value, value)
            self.raises(("BadBook", "rooms"), is_apart, value, value, value, value)
        self.raises(("Unlike", "stock"), stable_classes, [rooms[0], rooms[0].cut(scales=[])] * 40, "no")
        self.raises(("TooMany", "rooms", 64), is_apart, rooms * 33, "no", 0, 0)
        self.raises(("TooMany", "rooms", 64), stable_classes, rooms * 33, "no")
        for value in ODD_VALUES + tuple(way for way in plain.TWELVE if way not in FOUR):
            self.raises(("NoWay", value), stable_classes, [wide] * 3, value)
            self.raises(("NoWay", value), is_apart, [wide] * 3, value, value, value)
        for value in ODD_VALUES + ((2, "a"), (0, "c"), (False, "a"), (-1, "a"), "0a", (0, "a", "b"), {0: 1, "a": 2}):
            self.raises(("BadPlace", "one"), is_apart, rooms, "not", value, value)
            self.raises(("BadPlace", "other"), is_apart, rooms, "full.back", (1, "b"), value)
            self.raises(("BadPlace", "one"), is_apart, [wide] * 3, "not", value, value)
        self.raises(("TooMany", "places", 100), is_apart, [wide] * 3, "not", (0, "t0"), (0, "t1"))
        self.raises(("TooMany", "places", 100), stable_classes, [wide] * 3, "full")
        self.raises(("TooMany", "places", 100), stable_classes, [wide, wide, wide.kept(wide.things[:33])], "full")
        self.assertEqual(len(stable_classes([wide, wide, wide.kept(wide.things[:32])], "full")), 1)
        self.assertIs(is_apart([wide, wide, wide.kept(wide.things[:32])], "full", (0, "t0"), (2, "t31")), False)

    def test_soon_enough(self):
        start = time.time()
        rng = drawing(205)
        things = [f"t{k}" for k in range(33)]
        for ladder in (True, False):
            rooms = [Room(things, {f"w{k}": rng.sample(things, 20) for k in range(60)} if not ladder else {},
                          {f"l{k}": [(t, u) for t in things[:15] for u in rng.sample(things[15:], 5)] for k in range(8)} if not ladder else {},
                          {f"s{k}": {t: at if ladder else rng.randint(-9, 9) for at, t in enumerate(things)} for k in range(8)})
                     for _ in range(3)]
            for way in FOUR:
                classes = stable_classes(rooms, way)
                self.assertEqual(len(classes), 33 if ladder else 99)
        dense = [Room(things[:16], {}, {f"l{k}": [(t, u) for t in things[:16] for u in things[:16] if rng.random() < 0.3] for k in range(3)},
                      {f"s{k}": {t: rng.randint(0, 3) for t in things[:16]} for k in range(3)})]
        for way in FOUR:
            stable_classes(dense, way)
        self.assertLess(time.time() - start, 30)
