from sayable.reads import reading_of
from sayable.rooms import Room
from sayable.sayings import of_word, some_of
from sayable.tied import is_tied, pairs_in, tie_pairs, with_tie
from sayable.ties import Tie, as_tie, link_pairs, over_tie, same_pairs, turned_tie, word_pairs
from tests import plain
from tests.helpers import Case, ODD_VALUES, drawing, drawn_room
from tests.test_ties import drawn_tie, the_family


class Tied(Case):
    def test_examples(self):
        family, child = the_family(), link_pairs("child")
        sibling = over_tie(turned_tie(child), child) & ~same_pairs()
        self.assertEqual([tie_pairs(family, sibling), tie_pairs(family, over_tie(sibling, child)), tie_pairs(family, word_pairs("boy")),
                          is_tied(family, child, "s", "m")], [(("s", "t"), ("t", "s")), (("t", "u"),), (("s", "s"),), False])
        self.assertEqual([reading_of(with_tie(family, "sib", sibling), some_of("sib", of_word("boy"))),
                          tie_pairs(family, as_tie(some_of("child", of_word("boy"))))], [("t",), (("m", "m"),)])

    def test_against_the_table(self):
        rng = drawing(171)
        for _ in range(300):
            rooms = [drawn_room(rng, 4, 2, 2) for _ in range(rng.randint(1, 3))]
            tie = drawn_tie(rng, rooms[0], 7)
            wanted = tuple(plain.tie_pairs(room, tie) for room in rooms)
            self.assertEqual(pairs_in(tuple(rooms), tie), wanted)
            for room, pairs in zip(rooms, wanted):
                self.assertEqual(tie_pairs(room, tie), pairs)
                one, other = rng.choice(room.things), rng.choice(room.things)
                self.assertIs(is_tied(room, tie, one, other), (one, other) in pairs)
                more = with_tie(room, "l00", tie)
                self.assertEqual(more.pairs_of("l00"), pairs)
                self.assertTrue(more.cut(links=room.links) == room)

    def test_equal_ties(self):
        """The equalities that the facts of point 15 tell."""
        rng = drawing(172)
        for _ in range(150):
            room = drawn_room(rng, 5, 2, 2)
            one, other, last = [drawn_tie(rng, room, 4) for _ in range(3)]
            for left, right in ((turned_tie(turned_tie(one)), one),
                                (turned_tie(over_tie(one, other)), over_tie(turned_tie(other), turned_tie(one))),
                                (over_tie(one, over_tie(other, last)), over_tie(over_tie(one, other), last)),
                                (over_tie(one, same_pairs()), one), (over_tie(same_pairs(), one), one),
                                (over_tie(one, other | last), over_tie(one, other) | over_tie(one, last)), (~~one, one)):
                self.assertEqual(tie_pairs(room, left), tie_pairs(room, right))

    def test_with_tie_keeps_all_else(self):
        room = Room(["b", "a"], {"w": ["a"]}, {"l": [("b", "a")]}, {"s": {"a": 3}})
        more = with_tie(room, "k", turned_tie(link_pairs("l")))
        self.assertEqual(str(more), "b a ; w a ; k a b / l b a ; s a 3")
        self.assertEqual(str(with_tie(room, "w", word_pairs("w"))), "b a ; w a ; l b a / w a a ; s a 3")
        self.assertEqual(room.links, ("l",))


class Edges(Case):
    def test_order_of_errors(self):
        family, child = the_family(), link_pairs("child")
        calls = ((lambda room, tie: tie_pairs(room, tie)), (lambda room, tie: is_tied(room, tie, "m", "s")),
                 (lambda room, tie: with_tie(room, "new", tie)))
        for call in calls:
            for value in ODD_VALUES + ([family], "room"):
                self.raises(("BadRoom", "room"), call, value, value)
            for value in ODD_VALUES + (of_word("boy"), "link child", family):
                self.raises(("BadTie", "tie"), call, family, value)
        for value in ODD_VALUES + (family, [family, None]):
            self.raises(("BadBook", "rooms"), pairs_in, value, value)
            self.raises(("BadTie", "tie"), pairs_in, [family], value)
        self.raises(("Unlike", "stock"), pairs_in, [family, family.cut([])], None)
        self.raises(("TooMany", "rooms", 64), pairs_in, [family] * 65, None)
        self.assertEqual(pairs_in([family] * 64, child)[63], family.pairs_of("child"))
        for value in ODD_VALUES + ("z",):
            self.raises(("NoThing", value), is_tied, family, link_pairs("no"), value, value)
            self.raises(("NoThing", value), is_tied, family, link_pairs("no"), "m", value)
            self.raises(("BadTie", "tie"), is_tied, family, value, value, value)

    def test_names_that_the_room_lacks(self):
        family = the_family()
        for tie, wanted in ((link_pairs("no"), ("NoLink", "no")), (word_pairs("child"), ("NoWord", "child")),
                            (link_pairs("child") & word_pairs("x") & link_pairs("y"), ("NoWord", "x")),
                            (link_pairs("y") & word_pairs("x"), ("NoLink", "y")), (link_pairs("boy"), ("NoLink", "boy"))):
            self.raises(wanted, tie_pairs, family, tie)
            self.raises(wanted, pairs_in, [family, family], tie)
            self.raises(wanted, is_tied, family, tie, "m", "m")
            self.raises(wanted, with_tie, family, "new", tie)
        self.assertEqual(tie_pairs(family, Tie([("same",)]))[0], ("m", "m"))

    def test_with_tie(self):
        family = the_family()
        full = Room(["a"], {}, {f"l{k}": [] for k in range(8)})
        for value in ODD_VALUES + ("A", "a..b"):
            self.raises(("BadTie", "name"), with_tie, family, value, value)
            self.raises(("BadTie", "tie"), with_tie, family, "child", value)
        self.raises(("Twice", "child"), with_tie, family, "child", link_pairs("no"))
        self.raises(("Twice", "l3"), with_tie, full, "l3", link_pairs("no"))
        self.raises(("NoLink", "no"), with_tie, full, "l8", link_pairs("no"))
        self.raises(("TooMany", "links", 8), with_tie, full, "l8", same_pairs())
        self.assertEqual(len(with_tie(full.cut(links=full.links[:7]), "l8", same_pairs()).links), 8)
