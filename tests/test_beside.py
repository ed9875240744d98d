from sayable.beside import rooms_beside
from sayable.rooms import Room
from tests.helpers import Case, ODD_VALUES, drawing, drawn_room
from tests.test_rooms import the_room


class Beside(Case):
    def test_example(self):
        room = the_room()
        self.assertEqual(str(rooms_beside(room.kept(["a"]), room.kept(["b", "c"]))),
                         "r0.a r1.b r1.c ; cup r0.a r1.b r1.c / red r1.b ; left r1.b r1.c ; size r0.a -5 r1.b 3")

    def test_all_that_is_told(self):
        rng = drawing(11)
        for _ in range(40):
            rooms = [drawn_room(rng, 4, 2, 2, 1) for _ in range(rng.randint(1, 4))]
            made = rooms_beside(*rooms)
            self.assertEqual(made.things, tuple(f"r{k}.{t}" for k, room in enumerate(rooms) for t in room))
            self.assertEqual(made.stock, rooms[0].stock)
            for number, room in enumerate(rooms):
                part = made.kept([f"r{number}.{t}" for t in room])
                self.assertEqual(part, room.renamed({t: f"r{number}.{t}" for t in room}))
            for link in made.links:
                self.assertEqual(len(made.pairs_of(link)), sum(len(room.pairs_of(link)) for room in rooms))

    def test_wrong_rooms(self):
        room = the_room()
        self.raises(("BadRoom", "rooms"), rooms_beside)
        for value in ODD_VALUES + ([room], str(room)):
            self.raises(("BadRoom", "rooms"), rooms_beside, value)
            self.raises(("BadRoom", "rooms"), rooms_beside, room, room.cut([]), value)
        self.raises(("Unlike", "stock"), rooms_beside, room, room.cut(["red"]))
        self.raises(("Unlike", "stock"), rooms_beside, room, room, room.cut(scales=[]))

    def test_names_and_numbers(self):
        six, five = "a.b.c.d.e.f", "a.b.c.d.e"
        self.assertEqual(rooms_beside(Room([five], {}, {}), Room([five], {}, {})).things, ("r0." + five, "r1." + five))
        self.raises(("TooMany", "stems", 6), rooms_beside, Room([six], {}, {}))
        self.raises(("TooMany", "stems", 6), rooms_beside, *[Room([f"t{k}" for k in range(39)] + [six], {}, {})] * 2)
        self.raises(("Unlike", "stock"), rooms_beside, Room([six], {}, {}), Room(["a"], {"w": []}, {}))
        twenty = Room([f"t{k}" for k in range(20)], {}, {})
        self.assertEqual(len(rooms_beside(twenty, twenty)), 40)
        self.raises(("TooMany", "things", 40), rooms_beside, twenty, twenty, Room(["a"], {}, {}))
        self.assertEqual(len(rooms_beside(*[Room(["a"], {}, {})] * 40)), 40)
        self.raises(("TooMany", "things", 40), rooms_beside, *[Room(["a"], {}, {})] * 41)
        self.assertEqual(rooms_beside(rooms_beside(twenty), twenty).things[0], "r0.r0.t0")
