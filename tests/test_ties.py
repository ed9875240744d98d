import time

from sayable.reads import reading_of
from sayable.rooms import Room
from sayable.sayings import Saying, above_of, any_thing, at_least, of_word, some_of, top_of
from sayable.tied import tie_pairs
from sayable.ties import (Tie, any_pairs, as_tie, link_pairs, no_pairs, over_tie, same_pairs, turned_tie, word_pairs)
from tests import plain
from tests.helpers import Case, ODD_VALUES, drawing, drawn_room, drawn_saying

KINDS = (("same",), ("any",), ("none",), ("link", "l"), ("of", "w"), ("both", 0, 1), ("either", 1, 0), ("not", 1), ("turned", 0), ("over", 1, 0))
AHEAD = [("link", "a"), ("of", "b")]


def the_family():
    return Room(["m", "s", "t", "u"], {"boy": ["s"]}, {"child": [("m", "s"), ("m", "t"), ("s", "u")]})


def drawn_tie(rng, room, parts=6):
    """A tie with names of the room's stock, its parts drawn one behind the other."""
    kinds = ["same", "any", "none", "both", "either", "not", "turned", "over"] + ["link", "link"] * bool(room.links) + ["of"] * bool(room.words)
    made = []
    for ahead in range(rng.randint(1, parts)):
        kind = rng.choice([kind for kind in kinds if ahead or kind in ("same", "any", "none", "link", "of")])
        if kind == "link":
            made.append((kind, rng.choice(room.links)))
        elif kind == "of":
            made.append((kind, rng.choice(room.words)))
        else:
            made.append((kind, *[rng.randrange(ahead) for _ in range({"both": 2, "either": 2, "over": 2, "not": 1, "turned": 1}.get(kind, 0))]))
    return Tie(made)


def tree_of(parts, at=-1):
    part = parts[at]
    return tuple(tree_of(parts, item) if isinstance(item, int) else item for item in part)


def walked(tree, parts):
    """One form by the walk of point 6, with the tree in hand."""
    numbers = [walked(item, parts) if isinstance(item, tuple) else item for item in tree]
    if tuple(numbers) not in parts:
        parts.append(tuple(numbers))
    return parts.index(tuple(numbers))


class Ties(Case):
    def test_examples(self):
        child = link_pairs("child")
        sibling = over_tie(turned_tie(child), child) & ~same_pairs()
        self.assertEqual([str(sibling), sibling.kinds, str(Tie.read("of boy / over 0 0"))],
                         ["link child / turned 0 / over 1 0 / same / not 3 / both 2 4", ("both", "link", "not", "over", "same", "turned"),
                          "of boy / over 0 0"])
        self.raises(("BadText", 0, 7), Tie.read, "same / link child / over 1 0")

    def test_each_kind(self):
        for part in KINDS:
            tie = Tie([*AHEAD, list(part)])
            self.assertTrue(Tie.read(str(tie)) == tie)
            self.assertIn(part[0], tie.kinds)
            self.assertEqual("w" in tie.words, "w" in part)
            self.assertEqual("l" in tie.links, "l" in part)
            self.assertEqual(len(tie), len(tie.parts))

    def test_one_form(self):
        rng = drawing(161)
        for _ in range(400):
            tie = drawn_tie(rng, drawn_room(rng, 2, 2, 2), 9)
            parts = []
            walked(tree_of(tie.parts), parts)
            self.assertEqual(tie.parts, tuple(parts))
            self.assertTrue(Tie(tie.parts) == tie and Tie.read(str(tie)) == tie)
            self.assertEqual(str(tie), " / ".join(" ".join(map(str, part)) for part in tie.parts))
            self.assertEqual(tie.kinds, tuple(sorted({part[0] for part in parts})))
            self.assertEqual(tie.words, tuple(sorted({part[1] for part in parts if part[0] == "of"})))
            self.assertEqual(tie.links, tuple(sorted({part[1] for part in parts if part[0] == "link"})))

    def test_equality(self):
        self.assertTrue(Tie([("same",), ("any",), ("both", 1, 0)]) == Tie([("any",), ("same",), ["both", 0, 1]]))
        self.assertFalse(Tie([("same",), ("any",), ("both", 1, 0)]) == Tie([("same",), ("any",), ("both", 0, 1)]))
        for value in ODD_VALUES + ((("same",),), "same", Saying([("thing",)])):
            self.assertIs(same_pairs() == value, False)
            self.assertIs(same_pairs() != value, True)

    def test_signs_and_functions(self):
        one, other = link_pairs("l"), word_pairs("w")
        self.assertEqual(str(one & other), "link l / of w / both 0 1")
        self.assertEqual(str(other | one), "of w / link l / either 0 1")
        self.assertEqual(str(~one), "link l / not 0")
        self.assertEqual(str(turned_tie(one | one)), "link l / either 0 0 / turned 1")
        self.assertEqual(str(over_tie(one, ~one)), "link l / not 0 / over 0 1")
        self.assertEqual([str(tie) for tie in (same_pairs(), any_pairs(), no_pairs())], ["same", "any", "none"])
        self.assertEqual(link_pairs("a.b").links, ("a.b",))

    def test_halves(self):
        """A tie of equal halves, forty times over, has forty parts more."""
        tie = link_pairs("l")
        for turn in range(40):
            tie = over_tie(tie, tie) if turn % 2 else tie & tie
        self.assertEqual(len(tie), 41)
        things = [f"t{k}" for k in range(40)]
        ring = Room(things, {}, {"l": [(things[k], things[(k + 1) % 40]) for k in range(40)]})
        by = 2 ** 20 % 40
        self.assertEqual(tie_pairs(ring, tie), tuple((things[k], things[(k + by) % 40]) for k in range(40)))
        self.assertTrue(Tie.read(str(tie)) == tie)

    def test_bad_parts(self):
        for value in ODD_VALUES:
            self.raises(("BadTie", "parts"), Tie, value)
            self.raises(("BadTie", "parts"), Tie, [value])
            self.raises(("BadTie", "parts"), Tie, [("same",), value])
            for part in KINDS:
                for at in range(len(part)):
                    odd = value != 0 or isinstance(value, bool) or not isinstance(part[at], int)
                    if odd and not (isinstance(value, int) and not isinstance(value, bool) and 0 <= value < 2):
                        self.raises(("BadTie", "parts"), Tie, [*AHEAD, (*part[:at], value, *part[at + 1:])])
        for part in KINDS:
            self.raises(("BadTie", "parts"), Tie, [*AHEAD, part[:-1]])
            self.raises(("BadTie", "parts"), Tie, [*AHEAD, (*part, 0)])
            self.raises(("BadTie", "parts"), Tie, [*AHEAD, (*part, "l")])
        for part in (("both", 0, 2), ("not", -1), ("not", True), ("turned", "0"), ("of", "W"), ("link", "l..m"), ("word", "w"), ("thing",),
                     ("some", "l", "on", 0), ("over", 0), ("link", 0), ("not", 0.0), "same"):
            self.raises(("BadTie", "parts"), Tie, [*AHEAD, part])
        self.raises(("BadTie", "parts"), Tie, [("not", 0)])

    def test_wrong_arguments(self):
        for value in ODD_VALUES + (of_word("w"), "link l", ("same",)):
            self.raises(("BadTie", "other"), lambda: same_pairs() & value)
            self.raises(("BadTie", "other"), lambda: same_pairs() | value)
            self.raises(("BadTie", "tie"), turned_tie, value)
            self.raises(("BadTie", "one"), over_tie, value, value)
            self.raises(("BadTie", "other"), over_tie, same_pairs(), value)
        for value in ODD_VALUES + ("L", "7a", "a.", same_pairs()):
            self.raises(("BadTie", "link"), link_pairs, value)
            self.raises(("BadTie", "name"), word_pairs, value)
        for value in ODD_VALUES + ("thing", same_pairs()):
            self.raises(("BadSaying", "saying"), as_tie, value)

    def test_as_tie(self):
        rng = drawing(162)
        kinds = ["thing", "nothing", "word", "both", "either", "not", "some", "every"]
        for _ in range(300):
            room = drawn_room(rng, 5, 2, 2)
            saying = drawn_saying(rng, room, 8, kinds)
            tie = as_tie(saying)
            self.assertIsInstance(tie, Tie)
            self.assertEqual(tie_pairs(room, tie), tuple((thing, thing) for thing in reading_of(room, saying)))
            self.assertTrue(as_tie(Saying(saying.parts)) == tie)
        for part in (("some", "l", "on", 0), ("some", "l", "back", 0), ("every", "l", "on", 0), ("every", "l", "back", 0), ("not", 0)):
            room = Room(["a", "b", "c"], {"w": ["b"]}, {"l": [("a", "b"), ("b", "c"), ("c", "c")]})
            saying = Saying([("word", "w"), part])
            self.assertEqual([x for x, _ in tie_pairs(room, as_tie(saying))], list(reading_of(room, saying)))

    def test_as_tie_of_what_is_not_let(self):
        least, top, above = at_least(2, "l", any_thing()), top_of("s", any_thing()), above_of("s", "w")
        self.raises(("NotLet", "not.back", "least"), as_tie, least)
        self.raises(("NotLet", "not.back", "top"), as_tie, ~top)
        self.raises(("NotLet", "not.back", "above"), as_tie, above | least)
        self.raises(("NotLet", "not.back", "least"), as_tie, some_of("l", least) & above)
        self.raises(("NotLet", "not.back", "top"), as_tie, of_word("w") & top & least)

    def test_soon_enough(self):
        start = time.time()
        rng = drawing(163)
        things = [f"t{k}" for k in range(40)]
        room = Room(things, {"w": things[:9]}, {f"l{k}": [(t, u) for t in things for u in things if rng.random() < 0.4] for k in range(3)})
        for _ in range(10):
            tie = drawn_tie(rng, room, 200)
            tie_pairs(room, tie)
            Tie.read(str(tie))
        long = link_pairs("l0")
        for turn in range(200):
            long = ~over_tie(long, link_pairs("l1")) if turn % 2 else turned_tie(long) | long
        tie_pairs(room, long)
        saying = of_word("w")
        for turn in range(200):
            saying = ~some_of(f"l{turn % 3}", saying, turn % 2 == 0) & saying
        self.assertEqual(tie_pairs(room, as_tie(saying)), tuple((t, t) for t in reading_of(room, saying)))
        self.assertLess(time.time() - start, 60)


class TieText(Case):
    def fails(self, word, text):
        self.raises(("BadText", 0, word), Tie.read, text)

    def test_no_string(self):
        for value in ODD_VALUES + (["same"], b"same", same_pairs()):
            if not isinstance(value, str):
                self.fails(0, value)

    def test_words(self):
        for word, text in ((0, ""), (0, " same"), (1, "same "), (1, "same  / any"), (0, "Same"), (0, "/"), (1, "link"), (1, "link /"),
                           (1, "link L"), (2, "link a b"), (2, "same /"), (2, "same / "), (3, "same / of"), (1, "same any"), (0, "thing"),
                           (0, "word a"), (0, "same\n"), (0, "same\t/ any"), (1, "link a\n")):
            self.fails(word, text)

    def test_numbers(self):
        for word in ("1", "2", "-0", "-1", "00", "+0", "--0", "", "a", "0.0", "\u0660", "1000000000", "/"):
            for kind in ("not", "turned", "over", "both", "either"):
                self.fails(3, f"same / {kind} {word}")
        for kind in ("both", "either", "over"):
            self.fails(4, f"same / {kind} 0")
            self.fails(4, f"same / {kind} 0 1")
            self.fails(5, f"same / {kind} 0 0 0")
        self.fails(1, "not 0")
        self.fails(1, "turned 0")

    def test_parts_that_equal_one_ahead(self):
        for word, text in ((2, "same / same"), (4, "link a / link a"), (9, "same / not 0 / not 1 / not 0"), (8, "any / over 0 0 / over 0 0"),
                           (4, "of a / of a / both 0 1")):
            self.fails(word, text)

    def test_another_order_or_needless_parts(self):
        for word, text in ((8, "of b / of a / both 1 0"), (2, "same / any"), (8, "of a / of b / either 0 0"), (7, "of a / of b / not 0"),
                           (3, "same / link child")):
            self.fails(word, text)

    def test_one_word_off(self):
        rng = drawing(164)
        for _ in range(200):
            words = str(drawn_tie(rng, drawn_room(rng, 2, 2, 2), 8)).split(" ")
            for at in range(len(words) + 1):
                for odd in ("?", "", "A", "02", "+1", "--1", "1234567890", "\t"):
                    self.fails(at, " ".join(words[:at] + [odd] + words[at + 1:]))
                    self.fails(at, " ".join(words[:at] + [odd] + words[at:]))
            self.fails(0, " " + " ".join(words))
            at = rng.randrange(len(words))
            odd = rng.choice(words + ["/", "same", "0", "1", "l0", "w0", "both", "of"])
            for changed in (words[:at] + [odd] + words[at + 1:], words[:at] + [odd] + words[at:], words[:at] + words[at + 1:], words[:-1]):
                self.check_text(changed)

    def check_text(self, words):
        text = " ".join(words)
        try:
            self.assertEqual(str(Tie.read(text)), text)
        except Exception:
            told = self.told(Tie.read, text)
            self.assertEqual(told[:2], ("BadText", 0))
            if words and told[2] < len(words) - 1:
                self.assertEqual(self.told(Tie.read, " ".join(words[:told[2] + 1])), told)
