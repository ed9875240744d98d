from sayable.check_alike import shows_likeness
from sayable.likeness import likeness_pairs
from sayable.rooms import Room
from tests import plain
from tests.helpers import Case, ODD_VALUES, drawing
from tests.test_likeness import one_stock, the_row


class ShownLikeness(Case):
    def test_example(self):
        row, a, c = the_row(), (0, "a"), (0, "c")
        self.assertEqual([shows_likeness([row], "either", [(c, a), (c, c)]), shows_likeness([row], "every", [(c, a)]),
                          shows_likeness([row], "not", [])], [True, False, True])

    def test_the_greatest_and_others(self):
        rng = drawing(71)
        shown = 0
        for _ in range(50):
            rooms = one_stock(rng)
            for way in plain.TEN:
                pairs = list(likeness_pairs(rooms, way))
                self.assertIs(shows_likeness(rooms, way, pairs), True)
                rng.shuffle(pairs)
                told = [[list(one), other] for one, other in pairs + pairs[:2]]
                self.assertIs(shows_likeness(tuple(rooms), way, told), True)
                some = [pair for pair in pairs if rng.random() < 0.6]
                bent = some + [rng.choice(plain.all_pairs(rooms))]
                for value in (some, bent, tuple(bent)):
                    wanted = plain.is_closed(rooms, way, value)
                    self.assertIs(shows_likeness(rooms, way, value), wanted)
                    shown += wanted
        self.assertGreater(shown, 50)

    def test_pairs_that_pass_no_round(self):
        room = Room(["a", "b"], {"w": ["a"]}, {})
        self.assertIs(shows_likeness([room], "either", [((0, "b"), (0, "a"))]), True)
        self.assertIs(shows_likeness([room], "not", [((0, "b"), (0, "a"))]), False)
        self.assertIs(shows_likeness([room], "either", [((0, "a"), (0, "b"))]), False)
        loop = Room(["a", "b"], {}, {"l": [("a", "a"), ("b", "b")]})
        self.assertIs(shows_likeness([loop], "full", [((0, "a"), (0, "b"))]), True)
        self.assertIs(shows_likeness([loop, loop], "full", [((1, "a"), (0, "b"))]), True)

    def test_any_value(self):
        row, a = the_row(), (0, "a")
        for value in ODD_VALUES:
            self.assertIs(shows_likeness([row], "not", value), value in ([], ()) and isinstance(value, (list, tuple)))
        for value in ([None], [(a,)], [(a, a, a)], [(a, None)], [(None, a)], [a], [(a, (1, "a"))], [(a, (False, "a"))], [((0, "z"), a)],
                      [((0, ["a"]), a)], [(a, a), 5], {(a, a): 1}, {(a, a)}, "aa", [((0, "a", 0), a)], [{0: a, 1: a}], row, (a, a)):
            self.assertIs(shows_likeness([row], "not", value), False)
        self.assertIs(shows_likeness([row], "not", ([a, a],)), False)
        self.assertIs(shows_likeness([row], "not", [[a, a], [(0, "b"), [0, "b"]], ([0, "c"], (0, "c"))]), True)

    def test_errors(self):
        row, a = the_row(), (0, "a")
        many = [Room([f"t{k}" for k in range(40)], {}, {})] * 3
        for value in ODD_VALUES + (row, [None], [row, 5]):
            self.raises(("BadBook", "rooms"), shows_likeness, value, value, value)
            self.raises(("NoWay", value), shows_likeness, [row], value, value)
            self.raises(("NoWay", value), shows_likeness, many, value, value)
        self.raises(("Unlike", "stock"), shows_likeness, [row] * 65 + [row.cut([])], "not", [])
        for way in ("plain", "plain.back"):
            self.raises(("NoWay", way), shows_likeness, [row], way, [(a, a)])
        self.assertIs(shows_likeness([row] * 65, "not", []), False)
        self.assertIs(shows_likeness([row] * 65, None, None), False)
        self.assertIs(shows_likeness(many, "not", []), False)
        self.assertIs(shows_likeness([many[0]] * 2 + [many[0].kept(["t0"])], "not", []), True)
