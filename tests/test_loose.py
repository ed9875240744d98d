from sayable.changes import changed_room
from sayable.loose import Loose, fillings
from sayable.rooms import Room
from tests.helpers import Case, ODD_VALUES, drawing, drawn_room
from tests.test_rooms import the_room


class LooseRooms(Case):
    def test_example(self):
        room = the_room()
        loose = Loose(room, [("word", "red", "a"), ("link", "left", "b", "c")])
        self.assertEqual([str(one.cut(["red"], None, [])) for one in fillings(loose)],
                         ["a b c ; red b ; left a b ;", "a b c ; red b ; left a b b c ;", "a b c ; red a b ; left a b ;",
                          "a b c ; red a b ; left a b b c ;"])
        self.assertEqual([loose == Loose(changed_room(room, ("mark", "red", "a")), loose.unknown),
                          loose.filled([False, True]) == room], [True, True])

    def test_all_fillings(self):
        rng = drawing(3)
        for _ in range(30):
            room = drawn_room(rng, 3, 2, 1, 1)
            facts = [("word", w, t) for w in room.words for t in room] + [("link", k, t, u) for k in room.links for t in room
                                                                         for u in room]
            rng.shuffle(facts)
            facts = facts[:rng.randint(0, 4)]
            loose = Loose(room, facts)
            made = list(fillings(loose))
            self.assertEqual(len(made), 2 ** len(facts))
            for number, one in enumerate(made):
                truths = [figure == "1" for figure in format(number, f"0{len(facts)}b")] if facts else []
                self.assertEqual(one, loose.filled(tuple(truths)))
                self.check_filling(room, facts, truths, one)
            for number in range(len(made)):
                self.assertEqual(loose, Loose(made[number], tuple(list(fact) for fact in facts)))

    def check_filling(self, room, facts, truths, one):
        wanted = dict(zip(facts, truths))
        self.assertEqual((one.things, one.stock), (room.things, room.stock))
        for word in room.words:
            for thing in room:
                self.assertEqual(one.holds(word, thing), wanted.get(("word", word, thing), room.holds(word, thing)))
        for link in room.links:
            for thing in room:
                for other in room:
                    ties = other in room.leads(link, thing)
                    self.assertEqual(other in one.leads(link, thing), wanted.get(("link", link, thing, other), ties))
        self.assertEqual(one.scale_dicts(), room.scale_dicts())

    def test_attributes_and_copies(self):
        facts = [["word", "red", "a"]]
        loose = Loose(the_room(), facts)
        facts[0][2] = "b"
        facts.append(None)
        self.assertEqual((loose.room, loose.unknown), (the_room(), (("word", "red", "a"),)))
        self.assertEqual([str(one.cut(["red"], [], [])) for one in fillings(loose)], ["a b c ; red b ; ;", "a b c ; red a b ; ;"])
        self.assertEqual(list(fillings(Loose(the_room(), ()))), [the_room()])

    def test_equality(self):
        room = the_room()
        one = Loose(room, [("word", "red", "a"), ("word", "red", "b")])
        self.assertNotEqual(one, Loose(room, [("word", "red", "b"), ("word", "red", "a")]))
        self.assertNotEqual(one, Loose(room, [("word", "red", "a")]))
        self.assertNotEqual(one, Loose(changed_room(room, ("unmark", "cup", "a")), one.unknown))
        self.assertEqual(one, Loose(changed_room(room, ("unmark", "red", "b")), one.unknown))
        for value in ODD_VALUES + (room,):
            self.assertFalse(one == value)

    def test_unknown_errors(self):
        room = the_room()
        for value in ODD_VALUES:
            self.raises(("BadRoom", "room"), Loose, value, value)
        for value in (None, 5, "ab", {"a": 1}, {}, [None], ["word"], [("word",)], [("word", "red")], [("word", "red", "a", "b")],
                      [("link", "left", "a")], [("link", "left", "a", "b", "c")], [("scale", "size", "a")], [[]], [["word", "red", "a"], 5],
                      [(["word"], "red", "a")], [{"word": 1}], [("word", "z", "z"), ("Word", "red", "a")]):
            self.raises(("BadLoose", "unknown"), Loose, room, value)
        for value in ODD_VALUES + ("z",):
            self.raises(("NoWord", value), Loose, room, [("word", value, value), ("word", None, None)])
            self.raises(("NoThing", value), Loose, room, [("word", "red", value)])
            self.raises(("NoLink", value), Loose, room, [("word", "red", "a"), ("word", "red", "a"), ["link", value, 1, 2]])
            self.raises(("NoThing", value), Loose, room, [("link", "left", value, None)])
            self.raises(("NoThing", value), Loose, room, [("link", "left", "a", value)])
        self.raises(("BadLoose", "twice"), Loose, room, [("word", "red", "a"), ["word", "red", "a"]] * 4)

    def test_bounds(self):
        room = Room(["a"], {f"w{k}": [] for k in range(8)}, {})
        facts = [("word", f"w{k}", "a") for k in range(7)]
        self.assertEqual(len(list(fillings(Loose(room, facts[:6])))), 64)
        self.raises(("TooMany", "unknown", 6), Loose, room, facts)
        self.raises(("NoWord", "x"), Loose, room, facts + [("word", "x", "a")])
        self.raises(("BadLoose", "twice"), Loose, room, facts + facts[:1])

    def test_truths(self):
        loose = Loose(the_room(), [("word", "red", "a"), ("word", "red", "b")])
        for value in ODD_VALUES + ([True], [True, False, True], [1, 0], [True, 0], [None, True], "ab", {True: 1, False: 0}):
            self.raises(("BadLoose", "truths"), loose.filled, value)

    def test_fillings_of_what_is_none(self):
        for value in ODD_VALUES + (the_room(),):
            self.raises(("BadLoose", "loose"), lambda: list(fillings(value)))
