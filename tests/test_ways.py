from sayable.sayings import Saying, at_least, of_word, some_of
from sayable.ways import all_ways, is_way, is_way_below, need_let, way_lets, ways_letting
from tests.helpers import Case, ODD_VALUES, drawing, drawn_room, drawn_saying
from tests.plain import ALL_KINDS, TWELVE, kinds_let

AHEAD = [("word", "a"), ("word", "b")]
ONE_OF_EACH = {"thing": ("thing",), "nothing": ("nothing",), "word": ("word", "a"), "both": ("both", 0, 1), "either": ("either", 0, 1),
               "not": ("not", 0), "some": ("some", "l", "on", 0), "every": ("every", "l", "on", 0), "least": ("least", 2, "l", "on", 0),
               "top": ("top", "s", 0), "above": ("above", "s", "w")}


class Ways(Case):
    def test_examples(self):
        red = some_of("left", of_word("red"))
        self.assertEqual([way_lets("every", ~red), ways_letting(~red), is_way_below("many", "full"), is_way_below("many", "not"),
                          is_way_below("not.back", "full")], [False, ("not", "full", "not.back", "full.back"), True, False, False])
        many = of_word("cup") & at_least(2, "left", red, True)
        self.raises(("NotLet", "plain", "least"), need_let, "plain", many)
        self.raises(("NotLet", "many", "back"), need_let, "many", many)
        self.assertIsNone(need_let("many.back", many))

    def test_all_ways(self):
        self.assertEqual(list(all_ways()), TWELVE)
        self.assertIsInstance(all_ways(), tuple)
        for way in TWELVE:
            self.assertIs(is_way(way), True)
        for value in ODD_VALUES + ("Plain", "plain ", "back", ".back", "above", "plain.back.back", "plain."):
            self.assertIs(is_way(value), False)

    def test_kind_by_kind(self):
        for way in TWELVE:
            for kind in ALL_KINDS:
                saying = Saying([*AHEAD, ONE_OF_EACH[kind]])
                lets = kind in kinds_let(way)
                self.assertIs(way_lets(way, saying), lets, (way, kind))
                if lets:
                    self.assertIsNone(need_let(way, saying))
                else:
                    self.raises(("NotLet", way, kind), need_let, way, saying)

    def test_back(self):
        for way in TWELVE:
            for kind in ("some", "every", "least"):
                part = tuple("back" if item == "on" else item for item in ONE_OF_EACH[kind])
                saying = Saying([*AHEAD, part])
                wanted = kind if kind not in kinds_let(way) else None if way.endswith(".back") else "back"
                self.assertIs(way_lets(way, saying), wanted is None)
                if wanted:
                    self.raises(("NotLet", way, wanted), need_let, way, saying)

    def test_first_part_that_is_not_let(self):
        rng = drawing(12)
        room = drawn_room(rng, 2, 2, 2, 1)
        for _ in range(300):
            saying = drawn_saying(rng, room, 8)
            letting = []
            for way in TWELVE:
                wrong = [part[0] if part[0] not in kinds_let(way) else "back" for part in saying.parts
                         if part[0] not in kinds_let(way) or ("back" in part and not way.endswith(".back"))]
                if wrong:
                    self.raises(("NotLet", way, wrong[0]), need_let, way, saying)
                else:
                    letting.append(way)
            self.assertEqual(ways_letting(saying), tuple(letting))

    def test_below(self):
        for one in TWELVE:
            for other in TWELVE:
                below = set(kinds_let(one)) <= set(kinds_let(other)) and (not one.endswith("back") or other.endswith("back"))
                self.assertIs(is_way_below(one, other), below)
        self.assertIs(is_way_below("plain.back", "either"), False)
        self.assertIs(is_way_below("every", "not.back"), True)

    def test_wrong_values(self):
        thing = of_word("a")
        for value in ODD_VALUES + ("Plain", "top"):
            for function in (way_lets, need_let):
                self.raises(("NoWay", value), function, value, value)
            self.raises(("NoWay", value), is_way_below, value, None)
            self.raises(("NoWay", value), is_way_below, "plain", value)
        for value in ODD_VALUES + ("word a", thing.parts):
            self.raises(("BadSaying", "saying"), way_lets, "plain", value)
            self.raises(("BadSaying", "saying"), need_let, "full", value)
            self.raises(("BadSaying", "saying"), ways_letting, value)
