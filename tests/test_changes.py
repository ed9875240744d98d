from sayable.changes import back_deeds, changed_room, deeds_between
from sayable.rooms import Room
from tests.helpers import Case, ODD_VALUES, drawing, drawn_room
from tests.test_rooms import the_room


def all_deeds(room):
    """Deeds of each kind over the names of a room, those that cannot be done among them."""
    things = room.things
    yield from (("put", name) for name in (*things, "new"))
    yield from (("take", thing) for thing in things)
    yield from ((kind, word, thing) for kind in ("mark", "unmark") for word in room.words for thing in things)
    yield from ((kind, link, one, other) for kind in ("tie", "untie") for link in room.links for one in things
                for other in things)
    yield from (("number", scale, thing, number) for scale in room.scales for thing in things
                for number in (None, 0, -2, 1))


def can_be_done(room, deed):
    """By the words of point 5 alone."""
    kind = deed[0]
    if kind == "put":
        return deed[1] not in room.things and len(room.things) < 40
    if kind == "take":
        return len(room.things) > 1
    if kind in ("mark", "unmark"):
        return (deed[2] in room.things_of(deed[1])) == (kind == "unmark")
    if kind in ("tie", "untie"):
        return (deed[2:] in room.pairs_of(deed[1])) == (kind == "untie")
    return room.number_of(deed[1], deed[2]) != deed[3]


def told(room):
    """All facts of a room, with its things as a set."""
    return (set(room.things), {w: set(room.things_of(w)) for w in room.words}, {k: set(room.pairs_of(k)) for k in room.links},
            {s: {t: room.number_of(s, t) for t in room if room.number_of(s, t) is not None} for s in room.scales})


class Changes(Case):
    def test_example(self):
        room = the_room()
        bare = changed_room(room, ("take", "b"))
        self.assertEqual([str(bare), back_deeds(room, ("take", "b")), back_deeds(room, ("number", "size", "a", None))],
                         ["a c ; cup a c / red ; left ; size a -5",
                          (("put", "b"), ("mark", "cup", "b"), ("mark", "red", "b"), ("tie", "left", "a", "b"),
                           ("tie", "left", "b", "c"), ("number", "size", "b", 3)), (("number", "size", "a", -5),)])
        other = Room(["a", "b", "c"], {"cup": ["a", "c"], "red": ["b"]}, {"left": [("a", "b"), ("c", "c")]}, {"size": {"b": 4}})
        self.assertEqual(deeds_between(room, other),
                         (("unmark", "cup", "b"), ("untie", "left", "b", "c"), ("tie", "left", "c", "c"),
                          ("number", "size", "a", None), ("number", "size", "b", 4)))
        self.raises(("BadDeed", "mark"), changed_room, room, ("mark", "red", "b"))

    def test_each_kind(self):
        room = the_room()
        for deed, text in ((("put", "x"), "a b c x ; cup a b c / red b ; left a b b c ; size a -5 b 3"),
                           (["take", "a"], "b c ; cup b c / red b ; left b c ; size b 3"),
                           (("mark", "red", "a"), "a b c ; cup a b c / red a b ; left a b b c ; size a -5 b 3"),
                           (("unmark", "cup", "b"), "a b c ; cup a c / red b ; left a b b c ; size a -5 b 3"),
                           (["tie", "left", "c", "c"], "a b c ; cup a b c / red b ; left a b b c c c ; size a -5 b 3"),
                           (("untie", "left", "a", "b"), "a b c ; cup a b c / red b ; left b c ; size a -5 b 3"),
                           (("number", "size", "c", 0), "a b c ; cup a b c / red b ; left a b b c ; size a -5 b 3 c 0"),
                           (("number", "size", "b", None), "a b c ; cup a b c / red b ; left a b b c ; size a -5")):
            self.assertEqual(str(changed_room(room, deed)), text)
        self.assertEqual(room, the_room())

    def test_done_and_led_back(self):
        rng = drawing(7)
        for _ in range(25):
            room = drawn_room(rng, 4, 2, 2, 1)
            for deed in all_deeds(room):
                if not can_be_done(room, deed):
                    self.raises(("BadDeed", deed[0]), changed_room, room, deed)
                    self.raises(("BadDeed", deed[0]), back_deeds, room, deed)
                    continue
                made = changed_room(room, deed)
                self.assertEqual(made.stock, room.stock)
                self.assertNotEqual(made, room)
                self.assertEqual(changed_room(room, list(deed)), made)
                self.check_back(room, deed, made)

    def check_back(self, room, deed, made):
        back = back_deeds(room, deed)
        self.assertEqual(len(set(back)), len(back))
        self.assertTrue(all(type(one) is tuple for one in (back, *back)))
        again = made
        for step in back:
            again = changed_room(again, step)
        if deed[0] == "take":
            self.assertEqual(again.things, tuple(t for t in room.things if t != deed[1]) + (deed[1],))
            self.assertEqual(told(again), told(room))
            ties = [step[2:] for step in back if step[0] == "tie"]
            for link in room.links:
                mine = [step[2:] for step in back if step[:2] == ("tie", link)]
                self.assertEqual(mine, [pair for pair in again.pairs_of(link) if deed[1] in pair])
            self.assertEqual(len(ties), len([p for k in room.links for p in room.pairs_of(k) if deed[1] in p]))
            order = ["put", "mark", "tie", "number"]
            keys = [(order.index(step[0]), step[1] if step[0] != "put" else "") for step in back]
            self.assertEqual(keys, sorted(keys))
        else:
            self.assertEqual((len(back), again), (1, room))

    def test_no_deed(self):
        room = the_room()
        for deed in ODD_VALUES + ("put", ("put",), ("put", "x", "y"), ("put", "X"), ("put", None), ("take",), ("take", "a", "b"),
                                  ("mark", "red"), ("mark", "red", "a", "b"), ("unmark",), ("tie", "left", "a"), ("untie", "left"),
                                  ("tie", "left", "a", "b", "c"), ("number", "size", "a"), ("number", "size", "a", True),
                                  ("number", "size", "a", "1"), ("number", "size", "a", 10 ** 9), ("number", "x", "y", 1.0),
                                  ("number", "x", "y", -10 ** 9), ("move", "a"), (["put"], "x"), (None, "x"), {"put": "x"},
                                  ("Put", "x"), ("put", ["x"]), ("put", "a.b.c.d.e.f.g"), ("put", "a" * 13)):
            self.raises(("BadDeed", "deed"), changed_room, room, deed)
            self.raises(("BadDeed", "deed"), back_deeds, room, deed)
            self.raises(("BadRoom", "room"), changed_room, deed, deed)
            self.raises(("BadRoom", "room"), back_deeds, deed, room)

    def test_names_that_are_none(self):
        room = the_room()
        for value in ODD_VALUES + ("z",):
            for deed, error in ((("take", value), "NoThing"), (("mark", value, None), "NoWord"), (("mark", "red", value), "NoThing"),
                                (("unmark", value, "z"), "NoWord"), (("unmark", "red", value), "NoThing"),
                                (("tie", value, None, None), "NoLink"), (("tie", "left", value, None), "NoThing"),
                                (("untie", "left", "a", value), "NoThing"), (("number", value, None, None), "NoScale"),
                                (("number", "size", value, 3), "NoThing"), (("tie", "left", "a", value), "NoThing")):
                self.raises((error, value), changed_room, room, deed)
                self.raises((error, value), back_deeds, room, list(deed))

    def test_edges(self):
        full = Room([f"t{k}" for k in range(40)], {}, {}, {"s": {}})
        self.raises(("TooMany", "things", 40), changed_room, full, ("put", "x"))
        self.raises(("TooMany", "things", 40), back_deeds, full, ("put", "x"))
        self.raises(("BadDeed", "put"), changed_room, full, ("put", "t3"))
        self.assertEqual(len(changed_room(full.kept(full.things[:39]), ("put", "x"))), 40)
        self.raises(("BadDeed", "take"), changed_room, full.kept(["t7"]), ("take", "t7"))
        self.raises(("NoThing", "t8"), changed_room, full.kept(["t7"]), ("take", "t8"))
        self.raises(("BadDeed", "number"), changed_room, full, ("number", "s", "t0", None))
        for number in (999999999, -999999999):
            self.assertEqual(changed_room(full, ("number", "s", "t0", number)).number_of("s", "t0"), number)


class Between(Case):
    def test_both_ways(self):
        rng = drawing(9)
        for _ in range(120):
            things = [f"t{k}" for k in range(rng.randint(1, 4))]
            one, other = [drawn_room(rng, 4, 2, 2, 2) for _ in range(2)]
            one, other = [self.with_things(rng, things, room) for room in (one, other)]
            for start, end in ((one, other), (other, one), (one, one)):
                deeds = deeds_between(start, end)
                room = start
                for deed in deeds:
                    self.assertNotIn(deed[0], ("put", "take"))
                    room = changed_room(room, deed)
                self.assertEqual(room, end)
                self.assertEqual(len(deeds), self.facts_that_differ(start, end))
                self.check_order(start, deeds)

    def with_things(self, rng, things, room):
        return Room(things, {w: [t for t in things if rng.random() < 0.5] for w in room.words},
                    {k: [(t, u) for t in things for u in things if rng.random() < 0.4] for k in room.links},
                    {s: {t: rng.randint(0, 2) for t in things if rng.random() < 0.6} for s in room.scales})

    def facts_that_differ(self, one, other):
        words = sum(one.holds(w, t) != other.holds(w, t) for w in one.words for t in one)
        links = sum(len(set(one.pairs_of(k)) ^ set(other.pairs_of(k))) for k in one.links)
        return words + links + sum(one.number_of(s, t) != other.number_of(s, t) for s in one.scales for t in one)

    def check_order(self, room, deeds):
        kinds = {"mark": 0, "unmark": 0, "tie": 1, "untie": 1, "number": 2}
        keys = [(kinds[deed[0]], deed[1], [room.things.index(t) for t in deed[2:] if t in room.things]) for deed in deeds]
        self.assertEqual(keys, sorted(keys))

    def test_errors(self):
        room = the_room()
        for value in ODD_VALUES + (str(room),):
            self.raises(("BadRoom", "one"), deeds_between, value, value)
            self.raises(("BadRoom", "other"), deeds_between, room, value)
        self.raises(("Unlike", "stock"), deeds_between, room, room.cut(words=["red"]).kept(["a"]))
        self.raises(("Unlike", "stock"), deeds_between, room, room.cut(links=[]))
        self.raises(("Unlike", "stock"), deeds_between, room.cut(scales=[]), room)
        self.raises(("Unlike", "things"), deeds_between, room, room.kept(["a", "b"]))
        self.raises(("Unlike", "things"), deeds_between, room, room.renamed({"a": "b", "b": "a", "c": "c"}))
        self.assertEqual(deeds_between(room, room), ())
