from sayable.groups import groups_alike, merged_room
from sayable.reads import reading_of
from sayable.rooms import Room
from tests import plain
from tests.helpers import Case, ODD_VALUES, drawing, drawn_room, drawn_saying
from tests.test_likeness import one_stock, the_row

SIX = [way for way in plain.TEN if way.split(".")[0] in ("either", "every", "not")]


class Groups(Case):
    def test_examples(self):
        row = the_row()
        cups = Room(["x", "y", "u", "v", "w"], {"cup": ["u", "v", "w"]}, {"has": [("x", "u"), ("x", "v"), ("y", "w")]})
        self.assertEqual([len(groups_alike([row, row], way)) for way in ("either", "not")], [3, 3])
        self.assertEqual([groups_alike([cups], "every")[1], str(merged_room(cups, "every"))],
                         [((0, "u"), (0, "v"), (0, "w")), "x u ; cup u ; has x u ;"])

    def test_drawn(self):
        rng = drawing(61)
        for _ in range(40):
            rooms = one_stock(rng)
            places = plain.places(rooms)
            for way in plain.TEN:
                like = set(plain.likeness(rooms, way))
                groups = groups_alike(tuple(rooms), way)
                self.assertEqual(sorted(place for group in groups for place in group), sorted(places))
                self.assertEqual([group[0] for group in groups], sorted([group[0] for group in groups], key=places.index))
                for group in groups:
                    self.assertEqual(group, plain.in_order(rooms, group))
                    alike = [place for place in places if (place, group[0]) in like and (group[0], place) in like]
                    self.assertEqual(list(group), alike)

    def test_merged(self):
        rng = drawing(62)
        for _ in range(60):
            room = drawn_room(rng, 5, rng.randint(0, 2), rng.randint(0, 2), 1)
            for way in SIX:
                groups = groups_alike([room], way)
                merged = merged_room(room, way)
                self.assertEqual(merged.things, tuple(group[0][1] for group in groups))
                self.assertEqual(merged.stock, (room.words, room.links, ()))
                for word in room.words:
                    self.assertEqual(merged.things_of(word), tuple(t for t in merged if room.holds(word, t)))
                for link in room.links:
                    wanted = {(one[0][1], other[0][1]) for one in groups for other in groups
                              if any((x[1], y[1]) in room.pairs_of(link) for x in one for y in other)}
                    self.assertEqual(set(merged.pairs_of(link)), wanted)
                self.assertEqual(len(groups_alike([merged], way)), len(merged))
                if room.words:
                    self.check_sayings(rng, room, way, groups, merged)

    def check_sayings(self, rng, room, way, groups, merged):
        """The fact of point 9: a saying fits a thing as it fits the first one of its group."""
        for saying in plain.some_sayings(rng, room.cut(scales=[]), way, 6, drawn_saying):
            fitted = reading_of(room, saying)
            firsts = reading_of(merged, saying)
            for group in groups:
                for place in group:
                    self.assertEqual(place[1] in fitted, group[0][1] in firsts)

    def test_errors(self):
        row = the_row()
        many = [Room([f"t{k}" for k in range(40)], {}, {})] * 3
        for value in ODD_VALUES + (row, [None]):
            self.raises(("BadBook", "rooms"), groups_alike, value, value)
            self.raises(("NoWay", value), groups_alike, many, value)
            self.raises(("NoWay", value), merged_room, row, value)
        for value in ODD_VALUES + ([row], str(row)):
            self.raises(("BadRoom", "room"), merged_room, value, value)
        for way in ("plain", "plain.back"):
            self.raises(("NoWay", way), groups_alike, [row], way)
            self.raises(("NoWay", way), merged_room, row, way)
        for way in ("many", "full", "many.back", "full.back"):
            self.raises(("NoWay", way), merged_room, row, way)
            self.assertEqual(len(groups_alike([row], way)), 3)
        self.raises(("Unlike", "stock"), groups_alike, [row, row.cut([])], "plain")
        self.raises(("TooMany", "rooms", 64), groups_alike, [row] * 65, "plain")
        self.raises(("TooMany", "places", 100), groups_alike, many, "not")
