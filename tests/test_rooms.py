from sayable.rooms import Room
from tests.helpers import Case, ODD_VALUES, drawing, drawn_room


def the_room():
    return Room(["a", "b", "c"], {"red": ["b"], "cup": ["c", "a", "b"]}, {"left": [("b", "c"), ("a", "b")]},
                {"size": {"b": 3, "a": -5}})


class Made(Case):
    def test_example(self):
        room = the_room()
        self.assertEqual(str(room), "a b c ; cup a b c / red b ; left a b b c ; size a -5 b 3")
        self.assertEqual([room.stock, room.things_of("cup"), room.leads("left", "b"), room.leads("left", "b", True),
                          room.number_of("size", "c"), "b" in room],
                         [(("cup", "red"), ("left",), ("size",)), ("a", "b", "c"), ("c",), ("a",), None, True])
        self.assertEqual([str(room.cut(words=["red"], scales=[])), str(room.kept(["c", "b"])),
                          str(room.cut([]).named(["c"]))],
                         ["a b c ; red b ; left a b b c ;", "b c ; cup b c / red b ; left b c ; size b 3",
                          "a b c ; name.c c ; left a b b c ; size a -5 b 3"])
        self.raises(("BadText", 0, 5), Room.read, "a b ; cup b a ; ;")

    def test_attributes(self):
        room = Room(("z", "a"), {"b": (), "a": ("a", "z")}, {"y": [["a", "a"]], "x": ()}, None)
        self.assertEqual((room.things, room.words, room.links, room.scales), (("z", "a"), ("a", "b"), ("x", "y"), ()))
        self.assertEqual((len(room), list(room), [thing for thing in room]), (2, ["z", "a"], ["z", "a"]))
        self.assertEqual((room.things_of("a"), room.things_of("b"), room.pairs_of("y")), (("z", "a"), (), (("a", "a"),)))
        for value in ODD_VALUES:
            self.assertIs(value in room, False)
        self.assertEqual(("z" in room, "b" in room), (True, False))

    def test_one_name_for_all(self):
        room = Room(["a"], {"a": ["a"]}, {"a": [("a", "a")], "b": [("a", "a")]}, {"a": {"a": 0}})
        self.assertEqual(str(room), "a ; a a ; a a a / b a a ; a a 0")
        self.assertEqual(Room.read(str(room)), room)

    def test_telling(self):
        room = the_room()
        self.assertEqual([room.holds("red", "b"), room.holds("red", "a")], [True, False])
        self.assertEqual(room.pairs_of("left"), (("a", "b"), ("b", "c")))
        self.assertEqual([room.number_of("size", thing) for thing in room], [-5, 3, None])
        self.assertEqual([room.leads("left", thing) for thing in room], [("b",), ("c",), ()])
        self.assertEqual([room.leads("left", thing, back=True) for thing in room], [(), ("a",), ("b",)])

    def test_telling_of_what_is_none(self):
        room = the_room()
        for value in ODD_VALUES + ("left", "size"):
            self.raises(("NoWord", value), room.holds, value, "a")
            self.raises(("NoWord", value), room.holds, value, "z")
            self.raises(("NoWord", value), room.things_of, value)
            self.raises(("NoScale" if value != "size" else "NoThing", value), room.number_of, *(
                (value, "a") if value != "size" else ("size", value)))
        for value in ODD_VALUES + ("red", "size"):
            self.raises(("NoThing", value), room.holds, "red", value)
            self.raises(("NoLink", value), room.leads, value, "a")
            self.raises(("NoLink", value), room.leads, value, None)
            self.raises(("NoThing", value), room.leads, "left", value, True)
            self.raises(("NoLink", value), room.pairs_of, value)
            self.raises(("NoThing", value), room.number_of, "size", value)
        self.raises(("NoScale", None), room.number_of, None, None)

    def test_equality(self):
        room = the_room()
        self.assertEqual(room, the_room())
        self.assertEqual(room, Room.read(str(room)))
        self.assertEqual(room, Room(("a", "b", "c"), {"cup": ("b", "a", "c"), "red": ("b",)},
                                    {"left": (["a", "b"], ["b", "c"])}, {"size": {"a": -5, "b": 3}}))
        for text in ("b a c ; cup b a c / red b ; left b c a b ; size b 3 a -5", "a b c ; cup a b c / red ; left a b b c ; size a -5 b 3",
                     "a b c ; cup a b c / red b ; left a b ; size a -5 b 3", "a b c ; cup a b c / red b ; left a b b c ; size a -5 b 4",
                     "a b c ; cup a b c / red b ; left a b b c ; size a -5 b 3 c 0", "a b c ; cup a b c / red b ; left a b b c ;",
                     "a b c ; cup a b c / red b / x ; left a b b c ; size a -5 b 3"):
            self.assertNotEqual(room, Room.read(text))
        for value in ODD_VALUES + (str(room),):
            self.assertFalse(room == value)

    def test_what_was_passed_may_change(self):
        things, words, links, scales = ["a", "b"], {"w": ["a"]}, {"l": [["a", "b"]]}, {"s": {"a": 1}}
        room = Room(things, words, links, scales)
        text = str(room)
        things.append("c")
        words["w"].append("b")
        words["v"] = []
        links["l"][0][0] = "b"
        links["l"].append(("a", "a"))
        scales["s"]["a"] = 2
        self.assertEqual(str(room), text)
        self.assertEqual(text, "a b ; w a ; l a b ; s a 1")

    def test_bounds(self):
        forty = [f"t{k}" for k in range(40)]
        sixty = {f"w{k}": [] for k in range(60)}
        eight = {f"l{k}": [] for k in range(8)}
        scales = {f"s{k}": {} for k in range(8)}
        room = Room(forty, sixty, eight, scales)
        self.assertEqual((len(room), len(room.words), len(room.links), len(room.scales)), (40, 60, 8, 8))
        self.assertEqual(Room.read(str(room)), room)
        more, words, links, numbers = forty + ["x"], {**sixty, "x": []}, {**eight, "x": []}, {**scales, "x": {}}
        self.raises(("TooMany", "things", 40), Room, more, words, links, numbers)
        self.raises(("TooMany", "words", 60), Room, forty, words, links, numbers)
        self.raises(("TooMany", "links", 8), Room, forty, sixty, links, numbers)
        self.raises(("TooMany", "scales", 8), Room, forty, sixty, eight, numbers)
        self.raises(("BadRoom", "scales"), Room, more, words, links, {"s": {"t0": 10 ** 9}})

    def test_wrong_things(self):
        bad_names = [value for value in ODD_VALUES] + ["a" * 13, "7", "a.b.c.d.e.f.g", "a "]
        for value in [None, True, 5, "a", "ab", [], (), {}, {"a": 1}, {"a"}, ["a", "a"], ["a", "b", "a"]] + [[x] for x in bad_names]:
            self.raises(("BadRoom", "things"), Room, value, None, None, 5)
        self.assertEqual(Room(["a" * 12, "a.b.c.d.e.f"], {}, {}).things, ("a" * 12, "a.b.c.d.e.f"))

    def test_wrong_words(self):
        for value in [None, 5, "a", [], ["a"], [("w", ["a"])], {"W": []}, {5: []}, {None: []}, {"w": None}, {"w": "a"},
                      {"w": {"a"}}, {"w": {"a": 1}}, {"w": ["a", "a"]}, {"w": ["c"]}, {"w": [["a"]]}, {"w": [None]}, {"w": 5},
                      {"w": ["a"], "v": ["a", "b", "a"]}, {"a.b.c.d.e.f.g": []}, {"w": [True]}, {True: ["a"]}]:
            self.raises(("BadRoom", "words"), Room, ["a", "b"], value, None, 5)

    def test_wrong_links(self):
        for value in [None, 5, "a", [], {"L": []}, {"l": None}, {"l": ["ab"]}, {"l": ["a"]}, {"l": [("a",)]},
                      {"l": [("a", "b", "a")]}, {"l": [("a", "b"), ["a", "b"]]}, {"l": [("a", "c")]}, {"l": [("c", "a")]},
                      {"l": [None]}, {"l": [{"a": "b"}]}, {"l": [({}, "a")]}, {"l": [["a", []]]}, {"l": {("a", "b"): 1}}, {5: []}]:
            self.raises(("BadRoom", "links"), Room, ["a", "b"], {}, value, 5)

    def test_wrong_scales(self):
        for value in [5, "a", [], {"S": {}}, {"s": None}, {"s": [("a", 1)]}, {"s": {"c": 1}}, {"s": {"a": True}},
                      {"s": {"a": None}}, {"s": {"a": "1"}}, {"s": {"a": 10 ** 9}}, {"s": {"a": -10 ** 9}}, {"s": {None: 1}},
                      {"s": {"a": 1.0}}, {5: {}}, {"s": {"a": 1}, "t": {"b": [1]}}, False]:
            self.raises(("BadRoom", "scales"), Room, ["a", "b"], {}, {}, value)
        room = Room(["a", "b"], {}, {}, {"s": {"a": 999999999, "b": -999999999}})
        self.assertEqual(str(room), "a b ; ; ; s a 999999999 b -999999999")

    def test_first_error(self):
        self.raises(("BadRoom", "things"), Room, [], [], [], [])
        self.raises(("BadRoom", "words"), Room, ["a"] * 1, [], [], [])
        self.raises(("BadRoom", "links"), Room, ["a"], {}, [], [])
        self.raises(("BadRoom", "links"), Room, [f"t{k}" for k in range(41)], {}, [], {})


class Changed(Case):
    def test_cut(self):
        room = the_room()
        self.assertEqual(room.cut(), room)
        self.assertEqual(str(room.cut([], [], [])), "a b c ; ; ;")
        self.assertEqual(str(room.cut(("red", "cup"), links=())), "a b c ; cup a b c / red b ; ; size a -5 b 3")
        self.assertEqual(room.cut(scales=["size"]), room)

    def test_cut_errors(self):
        room = the_room()
        for value in (5, "red", {"red": 1}, {"red"}, True):
            self.raises(("BadRoom", "words"), room.cut, value, 5, 5)
            self.raises(("BadRoom", "links"), room.cut, None, value, 5)
            self.raises(("BadRoom", "scales"), room.cut, [], [], value)
        for value in ODD_VALUES + ("blue",):
            self.raises(("NoWord", value), room.cut, ["red", "red", value, None], 5, 5)
            self.raises(("NoLink", value), room.cut, ["red"], ["left", "left", value], 5)
            self.raises(("NoScale", value), room.cut, [], None, ["size", value, "size"])
        self.raises(("Twice", "red"), room.cut, ["cup", "red", "red", "cup"], 5)
        self.raises(("Twice", "left"), room.cut, None, ["left", "left"], 5)
        self.raises(("Twice", "size"), room.cut, None, None, ["size", "size"])

    def test_kept(self):
        room = the_room()
        self.assertEqual(room.kept(["c", "a", "b"]), room)
        self.assertEqual(str(room.kept(("b",))), "b ; cup b / red b ; left ; size b 3")
        for value in (None, 5, "a", [], (), {"a": 1}, {"a"}):
            self.raises(("BadRoom", "things"), room.kept, value)
        for value in ODD_VALUES + ("z", "red"):
            self.raises(("NoThing", value), room.kept, ["a", "a", value, None])
        self.raises(("Twice", "b"), room.kept, ["a", "b", "b", "a"])

    def test_renamed(self):
        room = the_room()
        self.assertEqual(str(room.renamed({"a": "b", "b": "c", "c": "x.y"})),
                         "b c x.y ; cup b c x.y / red c ; left b c c x.y ; size b -5 c 3")
        for value in (None, 5, [], ["a", "b", "c"], {}, {"a": "x", "b": "y"}, {"a": "x", "b": "y", "c": "z", "d": "w"},
                      {"a": "x", "b": "y", "d": "z"}, {"a": "x", "b": "y", "c": "7"}, {"a": "x", "b": "y", "c": None},
                      {"a": "x", "b": "y", None: "z"}, {"a": "x", "b": "x", "c": []}, {"a": "x", "b": "y", "c": "a.b.c.d.e.f.g"}):
            self.raises(("BadRoom", "names"), room.renamed, value)
        self.raises(("Twice", "x"), room.renamed, {"c": "x", "b": "x", "a": "x"})
        self.raises(("Twice", "y"), Room(["a", "b", "c", "d"], {}, {}).renamed, {"d": "x", "c": "y", "b": "y", "a": "x"})
        six = "a.b.c.d.e.f"
        self.assertEqual(room.renamed({"a": six, "b": "b", "c": "c"}).things, (six, "b", "c"))

    def test_named(self):
        room = the_room()
        self.assertEqual(room.named([]), room)
        self.assertEqual(room.named(["c", "a"]).words, ("cup", "name.a", "name.c", "red"))
        self.assertEqual(room.named(("c",)).things_of("name.c"), ("c",))
        self.assertEqual(room.named(["a"]).cut(words=["red", "cup"]), room)
        for value in (None, 5, "a", {"a": 1}):
            self.raises(("BadRoom", "things"), room.named, value)
        for value in ODD_VALUES + ("z",):
            self.raises(("NoThing", value), room.named, ["a", "a", value])
        self.raises(("Twice", "a"), room.named, ["b", "a", "a"])

    def test_named_bounds(self):
        six, five = "a.b.c.d.e.f", "a.b.c.d.e"
        room = Room([six, five, "x"], {"name.x": [], "name." + five: []}, {})
        self.raises(("TooMany", "stems", 6), room.named, ["x", six])
        self.raises(("Twice", "name.x"), room.named, ["x", five])
        self.raises(("Twice", "name." + five), room.named, [five, "x"])
        full = Room(["x", "y"], {f"w{k}": [] for k in range(58)}, {})
        self.assertEqual(len(full.named(["x", "y"]).words), 60)
        self.raises(("TooMany", "words", 60), Room(["x", "y"], {f"w{k}": [] for k in range(59)}, {}).named, ["x", "y"])
        self.raises(("Twice", "name.y"), Room(["x", "y"], {**{f"w{k}": [] for k in range(59)}, "name.y": []}, {}).named, ["x", "y"])

    def test_nothing_changes(self):
        rng = drawing(4)
        for _ in range(40):
            room = drawn_room(rng, 5, 3, 2, 2)
            text = str(room)
            some = [thing for thing in room if rng.random() < 0.6] or [room.things[0]]
            room.cut(["w0"], [], None), room.kept(some), room.named(some), room.renamed({t: "x." + t for t in room})
            room.word_lists()["w0"].append("x"), room.link_lists().clear(), room.scale_dicts()["s0"].clear()
            self.assertEqual(str(room), text)
