from sayable.check_plain import shows_point_likeness
from sayable.rooms import Room
from tests import plain
from tests.helpers import Case, ODD_VALUES, drawing
from tests.test_plainlike import drawn_point, drawn_rooms
from tests.test_points import fan, the_pair


class ShownPointLikeness(Case):
    def test_example(self):
        pair = the_pair()
        x, u = (0, "x"), (0, "u")
        self.assertEqual([shows_point_likeness([pair], [((u,), u), ([(0, "v"), (0, "w")], x)]), shows_point_likeness([pair], [([x], x)]),
                          shows_point_likeness([pair], []), shows_point_likeness([pair], [([(0, "v"), (0, "w")], x)], True)],
                         [True, False, True, False])

    def test_greatest_pairs_and_others(self):
        rng = drawing(101)
        shown, refused = 0, 0
        for _ in range(80):
            rooms, back = drawn_rooms(rng, (0, 1, 1), 4), rng.random() < 0.5
            way = "plain.back" if back else "plain"
            point = drawn_point(rng, rooms)
            pairs = sorted(plain.point_likes(rooms, way, point)[-1])
            self.assertIs(shows_point_likeness(rooms, pairs, back), True)
            rng.shuffle(pairs)
            told = [[[list(one) for one in point], list(place)] for point, place in pairs + pairs[:2]]
            self.assertIs(shows_point_likeness(tuple(rooms), told, back), True)
            self.assertIs(shows_point_likeness(tuple(rooms), tuple(told), back), True)
            for _ in range(3):
                some = [pair for pair in pairs if rng.random() < 0.8]
                bent = some + [(drawn_point(rng, rooms), rng.choice(plain.places(rooms)))]
                for value in (some, bent, pairs[1:]):
                    wanted = plain.is_stage(rooms, way, value, value)
                    self.assertIs(shows_point_likeness(rooms, value, back), wanted)
                    shown += wanted
                    refused += not wanted
        self.assertGreater(shown, 50)
        self.assertGreater(refused, 50)

    def test_any_value(self):
        pair, x, y = the_pair(), (0, "x"), (0, "y")
        flat = Room(pair.things, pair.word_lists(), {"has": []})
        good = [([x, y], x), ((y,), [0, "y"])]
        self.assertIs(shows_point_likeness([flat], good), True)
        for value in ODD_VALUES:
            self.assertIs(shows_point_likeness([flat], value), value in ([], ()) and isinstance(value, (list, tuple)))
        for value in ([None], [([x],)], [([x], x, x)], [([x], None)], [(None, x)], [(x, x)], [([], x)], [([x, x], x)], [([y, x], x)],
                      [([(1, "x")], x)], [([(False, "x")], x)], [([x], (False, "x"))], [([x], (0, "z"))], [([(0, ["x"])], x)],
                      {((x,), x): 1}, "xx", [([x], x), 5], [([0, "x"], x)], [{0: [x], 1: x}], [([x], [x])], flat, ([x], x)):
            self.assertIs(shows_point_likeness([flat], value), False)
            if value != ([x], x):
                self.assertIs(shows_point_likeness([flat], [([x], x), value]), False)

    def test_points_that_are_not_least(self):
        """Each point to which the link leads is asked, not those alone that are within no other one."""
        room = Room(["r", "q", "u", "v"], {}, {"l": [("r", "u"), ("r", "v"), ("q", "u"), ("q", "v")]})
        r, q, u, v = [(0, t) for t in "rquv"]
        pairs = [([r, q], r), ([u], u), ([v], v), ([u, v], v)]
        self.assertIs(shows_point_likeness([room], pairs), True)
        for left_out in range(1, 4):
            self.assertIs(shows_point_likeness([room], pairs[:left_out] + pairs[left_out + 1:]), False)

    def test_choices(self):
        roots, heads = [(0, "r"), (1, "r"), (2, "r")], [(0, "h0"), (1, "h0"), (2, "h0")]
        rooms = [fan({"l": range(35)}), fan({"l": range(11)}), fan({"l": range(13)})]
        self.assertIs(shows_point_likeness(rooms, [(roots[:2], heads[0])]), False)
        self.assertIs(shows_point_likeness(rooms, [(heads, heads[0])]), True)
        self.assertIs(shows_point_likeness(rooms, [(heads[:1], heads[0]), (roots, roots[0])]), False)
        self.assertIs(shows_point_likeness(rooms, [(roots, roots[0])], True), False)
        enough = [fan({"l": range(many)}) for many in (10, 20, 25)]
        value = [(roots, roots[0])]
        value += [([(0, f"h{i}"), (1, f"h{j}"), (2, f"h{k}")], (0, "h0")) for i in range(10) for j in range(20) for k in range(25)]
        self.assertIs(shows_point_likeness(enough, value), True)
        self.assertIs(shows_point_likeness(enough, value[:-1]), False)
        more = [enough[0], enough[1], fan({"l": range(26)})]
        self.assertIs(shows_point_likeness(more, value), False)
        barren = [Room(room.things, {}, {"l": room.link_lists()["l"], "m": []}) for room in more]
        self.assertIs(shows_point_likeness(barren, [(roots, heads[0])]), False)

    def test_errors(self):
        pair, x = the_pair(), (0, "x")
        many = [Room([f"t{k}" for k in range(40)], {}, {})] * 3
        for value in ODD_VALUES + (pair, [None], [pair, 5]):
            self.raises(("BadBook", "rooms"), shows_point_likeness, value, value)
        self.raises(("Unlike", "stock"), shows_point_likeness, [pair] * 65 + [pair.cut([])], [])
        self.assertIs(shows_point_likeness([pair] * 65, []), False)
        self.assertIs(shows_point_likeness([pair] * 64, []), False)
        self.assertIs(shows_point_likeness([pair] * 20, []), True)
        self.assertIs(shows_point_likeness(many, []), False)
        self.assertIs(shows_point_likeness([many[0]] * 2 + [many[0].kept(["t0"])], []), True)
        self.assertIs(shows_point_likeness([many[0]] * 2, [([(1, "t5")], (0, "t1"))]), True)
        self.assertIs(shows_point_likeness([pair], [([x], x)], False), False)
