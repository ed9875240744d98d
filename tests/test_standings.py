from sayable.rooms import Room
from sayable.reads import reading_of
from sayable.sayings import Saying, above_of, any_thing, no_thing, of_word, some_of, top_of
from sayable.standings import Standing, picked_by
from tests import plain
from tests.helpers import Case, ODD_VALUES, drawing, drawn_room, drawn_saying

# Values that are no pick in any rooms.
NO_PICKS = tuple(value for value in ODD_VALUES if value is not None) + (
    "a", ["a"], [[]], [["a"], []], [["a", "a"]], [["A"]], [["a", 1]], [[["a"]]], {"a": 1}, [{"a": 1}], [{"a"}], [("a",), "b"], ((),))


def the_shelf():
    return Room(["a", "b", "c"], {"red": ["b"]}, {"left": [("a", "b"), ("b", "c")]})


def drawn_pick(rng, rooms):
    picks = []
    for room in rooms:
        some = rng.sample(room.things, rng.randint(1, len(room)))
        picks.append([t for t in room if t in some])
    return picks


def drawn_standing(rng, rooms):
    return Standing(*[drawn_pick(rng, rooms) if rng.random() < 0.7 else None for _ in range(3)])


def with_talk_words(rng, saying, often=0.4):
    """The saying with the three words in the place of some of its words, in above, too."""
    words = {word: rng.choice(["it", "other", "first"]) for word in saying.words if rng.random() < often}
    return Saying([tuple(words.get(item, item) if at == len(part) - 1 and part[0] in ("word", "above") else item for at, item in enumerate(part))
                   for part in saying.parts])


class Standings(Case):
    def test_examples(self):
        shelf = the_shelf()
        beside_it = some_of("left", of_word("it"), True)
        now = Standing().behind([["b"]])
        self.assertEqual([now.last, now.before, now.first, now.behind([["a", "c"]]) == Standing([["a", "c"]], [["b"]], [["b"]]),
                          now.word_things(0) == {"it": ["b"], "other": [], "first": ["b"]}], [(("b",),), None, (("b",),), True, True])
        self.assertEqual([picked_by([shelf], Standing(), of_word("red")), picked_by([shelf], Standing(), beside_it), picked_by([shelf], now, beside_it)],
                         [(("b",),), None, (("c",),)])
        self.raises(("BadTalk", "standing"), picked_by, [shelf, shelf.kept(["b", "c"])], Standing([["b"], ["c", "b"]]), of_word("red"))

    def test_picks_one_behind_the_other(self):
        picks = [[["a"], ["b", "c"]], (("d",), ("a",)), [["a"], ["b", "c"]], [["e", "d"], ["a"]]]
        fixed = [tuple(tuple(crowd) for crowd in picked) for picked in picks]
        standing = Standing()
        self.assertEqual((standing.last, standing.before, standing.first), (None, None, None))
        for at, picked in enumerate(picks):
            behind = standing.behind(picked)
            self.assertEqual((behind.last, behind.before, behind.first), (fixed[at], fixed[at - 1] if at else None, fixed[0]))
            self.assertTrue(standing == Standing(standing.last, standing.before, standing.first))
            standing = behind
        picks[3][0][0] = "z"
        self.assertEqual(standing.last, (("e", "d"), ("a",)))
        self.assertEqual(standing.word_things(1), {"it": ["a"], "other": ["b", "c"], "first": ["b", "c"]})
        standing.word_things(1)["it"].append("z")
        self.assertEqual(standing.word_things(0), {"it": ["e", "d"], "other": ["a"], "first": ["a"]})
        odd = Standing(before=[["a"]])
        self.assertEqual((odd.behind([["b"]]).last, odd.behind([["b"]]).before, odd.behind([["b"]]).first), ((("b",),), None, (("b",),)))

    def test_equality(self):
        one, other = [["a"]], [["b"]]
        self.assertTrue(Standing(one, other, one) == Standing((("a",),), [("b",)], first=[["a"]]))
        for wrong in (Standing(one, other), Standing(other, one, one), Standing(one, None, one), Standing([["a", "b"]], other, one), Standing()):
            self.assertFalse(Standing(one, other, one) == wrong)
        self.assertFalse(Standing([["a", "b"]]) == Standing([["b", "a"]]))
        for value in ODD_VALUES + ((None, None, None), [["a"]]):
            self.assertIs(Standing() == value, False)

    def test_wrong_standings(self):
        for value in NO_PICKS:
            self.raises(("BadTalk", "last"), Standing, value, value, value)
            self.raises(("BadTalk", "before"), Standing, [["a"]], value, value)
            self.raises(("BadTalk", "first"), Standing, None, [["a"], ["b"]], value)
            self.raises(("BadTalk", "first"), Standing, first=value)
            self.raises(("BadTalk", "picked"), Standing().behind, value)
            self.raises(("BadTalk", "picked"), Standing([["a"], ["b"]]).behind, value)
        self.raises(("BadTalk", "picked"), Standing().behind, None)
        for told in (([["a"]], [["a"], ["b"]]), ([["a"]], None, [["a"], ["b"]]), (None, [["a"]], [["a"], ["b"]]), ([["a"]] * 2, [["a"]] * 2, [["a"]])):
            self.raises(("Unlike", "rooms"), Standing, *told)
        for standing in (Standing([["a"]]), Standing(None, [["a"]]), Standing(None, None, [["a"]])):
            self.raises(("Unlike", "rooms"), standing.behind, [["a"], ["b"]])
            self.assertIsNone(self.told(standing.behind, [["b"]]))

    def test_wrong_numbers(self):
        for value in ODD_VALUES + ("0", 0.0, 1.5):
            if value != 10 ** 30:
                self.raises(("BadNumbers", "number"), Standing().word_things, value)
            self.raises(("BadNumbers", "number"), Standing([["a"], ["b"]]).word_things, value)
        self.raises(("BadNumbers", "number"), Standing(None, None, [["a"], ["b"]]).word_things, 2)
        self.assertEqual(Standing().word_things(10 ** 30), {"it": [], "other": [], "first": []})
        self.assertEqual(Standing(None, [["a"], ["b"]]).word_things(1), {"it": [], "other": ["b"], "first": []})


class PickedBy(Case):
    def test_against_plain_readings(self):
        rng = drawing(281)
        told = {True: 0, False: 0}
        for _ in range(300):
            rooms = [drawn_room(rng, 4, 2, 1, 1, prefix=rng.choice("tu")) for _ in range(rng.randint(1, 3))]
            standing = drawn_standing(rng, rooms)
            saying = with_talk_words(rng, drawn_saying(rng, rooms[0], 7))
            held = {"it": standing.last, "other": standing.before, "first": standing.first}
            readings = [plain.reading(room, saying, {word: held[word][at] if held[word] else () for word in held}) for at, room in enumerate(rooms)]
            wanted = tuple(readings) if all(readings) else None
            self.assertEqual(picked_by(rooms, standing, saying), wanted)
            self.assertEqual(picked_by(tuple(rooms), Standing(standing.last, standing.before, standing.first), saying), wanted)
            told[wanted is None] += 1
        self.assertGreater(min(told.values()), 60)

    def test_the_three_words_below_top_and_above(self):
        room = Room(["a", "b", "c"], {}, {"it": [("a", "b")]}, {"first": {"a": 1, "b": 2, "c": 3}})
        now = Standing([["a", "b"]], [["c"]], [["b", "c"]])
        for saying, wanted in ((top_of("first", of_word("it")), "b"), (above_of("first", "it"), "b"), (above_of("first", "other"), None),
                               (above_of("first", "first"), "c"), (some_of("it", of_word("it")), "a"), (top_of("first", ~of_word("first")), "a"),
                               (of_word("it") & of_word("first"), "b"), (of_word("it") & of_word("other"), None), (no_thing(), None)):
            self.assertEqual(picked_by([room], now, saying), wanted and ((wanted,),))

    def test_one_empty_room_is_nothing(self):
        one, two = Room(["a"], {"w": ["a"]}, {}), Room(["a"], {"w": []}, {})
        self.assertEqual(picked_by([one, one], Standing(), of_word("w")), (("a",), ("a",)))
        self.assertIsNone(picked_by([one, two], Standing(), of_word("w")))
        self.assertIsNone(picked_by([two, one], Standing(), of_word("w")))

    def test_errors(self):
        shelf = the_shelf()
        named = Room(["a"], {"first": [], "it": [], "other": []}, {"it": []}, {"first": {}})
        for value in ODD_VALUES + (shelf, [shelf, None]):
            self.raises(("BadBook", "rooms"), picked_by, value, value, value)
        self.raises(("Unlike", "stock"), picked_by, [shelf] * 70 + [named], 0, 0)
        self.raises(("TooMany", "rooms", 64), picked_by, [named] * 65, 0, 0)
        for words, wanted in ((["first", "it", "other"], "first"), (["it", "other"], "it"), (["other"], "other")):
            self.raises(("Twice", wanted), picked_by, [named.cut(words=words)], 0, 0)
        self.assertIsNone(picked_by([named.cut(words=[])], Standing(), some_of("it", any_thing())))
        for value in ODD_VALUES + ([["a"]], Standing):
            self.raises(("BadTalk", "standing"), picked_by, [shelf], value, value)
        two = [shelf, shelf.kept(["b", "c"])]
        for picked in ([["a"]], [["a"], ["a"]], [["a"], ["b"], ["b"]], [["b", "a"], ["b"]], [["d"], ["b"]], [["a"], ["c", "b"]]):
            for standing in (Standing(picked), Standing(None, picked), Standing(None, None, picked)):
                self.raises(("BadTalk", "standing"), picked_by, two, standing, None)
        good = Standing([["a", "c"], ["b", "c"]])
        for value in ODD_VALUES + ("word it", good):
            self.raises(("BadSaying", "saying"), picked_by, two, good, value)
        for saying, wanted in ((of_word("green"), ("NoWord", "green")), (some_of("right", of_word("it")), ("NoLink", "right")),
                               (some_of("right", of_word("that")), ("NoWord", "that")), (above_of("size", "that"), ("NoScale", "size")),
                               (top_of("it", of_word("it")), ("NoScale", "it")), (some_of("it", of_word("it")), ("NoLink", "it"))):
            self.raises(wanted, picked_by, two, good, saying)
        self.raises(("NoWord", "it"), reading_of, shelf, of_word("it"))
        sized = Room(["a"], {}, {}, {"size": {"a": 1}})
        self.raises(("NoWord", "that"), picked_by, [sized], Standing(), above_of("size", "that"))
        self.assertIsNone(picked_by([sized], Standing(), above_of("size", "it")))
