import time

from sayable.changes import back_deeds, changed_room
from sayable.rooms import Room
from sayable.sayings import above_of, any_thing, no_thing, of_word, some_of, top_of
from sayable.watched import Watched, replayed
from tests import plain
from tests.helpers import Case, ODD_VALUES, drawing, drawn_room, drawn_saying
from tests.test_rooms import the_room


def drawn_deed(rng, room, fresh=("n0", "n1", "n2")):
    """A deed of any kind, of names that the room has for the most part: it can be done or not."""
    things = [*room.things, rng.choice(fresh)]
    words, links, scales = [list(names) + ["gone"] * (rng.random() < 0.1) or ["gone"] for names in room.stock]
    thing, other = rng.choice(things), rng.choice(things)
    return rng.choice([
        ("put", rng.choice(fresh)), ("take", thing), ("mark", rng.choice(words), thing), ("unmark", rng.choice(words), thing),
        ("tie", rng.choice(links), thing, other), ("untie", rng.choice(links), thing, other),
        ("number", rng.choice(scales), thing, rng.choice([None, 0, 1, 2, -7]))])


def can_be_done(room, deed):
    try:
        return changed_room(room, deed)
    except ValueError:
        return None


class Houses(Case):
    def test_examples(self):
        room = the_room()
        house = Watched(room)
        self.assertEqual([house.watch("one", of_word("red")), house.watch("two", some_of("left", of_word("red"))), house.readings()],
                         [(), (), (("one", ("b",)), ("two", ("a",)))])
        self.assertEqual([house.do(("mark", "red", "c")), house.readings()[1], house.do(("take", "a")), house.do(("unmark", "cup", "c"))],
                         [("one", "two"), ("two", ("a", "b")), ("two",), ()])
        self.assertEqual([house.undo(), house.undo(), house.room.things, house.story, house.again(), house.watch("one", of_word("cup"))],
                         [(), ("two",), ("a", "b", "c"), (("mark", "red", "c"),), ("two",), ()])
        self.assertTrue(replayed(room, house.story).room == house.room)

    def test_against_readings_made_anew(self):
        rng = drawing(371)
        turned = done = 0
        for _ in range(60):
            room = drawn_room(rng, 4, 2, 1, 1)
            house, rooms, deeds, taken, watched = Watched(room), [room], [], [], {}
            for _ in range(30):
                before = {name: set(plain.reading(rooms[-1], saying)) for name, saying in watched.items()}
                turn = rng.random()
                if turn < 0.2:
                    name, saying = rng.choice(["a", "b.c", "d", "e"]), drawn_saying(rng, room, 5)
                    known = name in watched
                    watched[name] = saying
                    wanted = (name,) if known and set(plain.reading(rooms[-1], saying)) != before[name] else ()
                    self.assertEqual(house.watch(name, saying), wanted)
                elif turn < 0.4:
                    if not deeds:
                        self.raises(("Nothing",), house.undo)
                        continue
                    rooms.pop()
                    taken.append(deeds.pop())
                    told = house.undo()
                elif turn < 0.55:
                    if not taken:
                        self.raises(("Nothing",), house.again)
                        continue
                    deeds.append(taken.pop())
                    rooms.append(changed_room(rooms[-1], deeds[-1]))
                    told = house.again()
                else:
                    deed = drawn_deed(rng, rooms[-1])
                    behind = can_be_done(rooms[-1], deed)
                    if behind is None:
                        kept = (house.room, house.story, house.sayings(), house.readings())
                        self.raises(self.told(changed_room, rooms[-1], deed), house.do, deed)
                        self.assertEqual(kept, (house.room, house.story, house.sayings(), house.readings()))
                        continue
                    deeds.append(deed)
                    rooms.append(behind)
                    taken = []
                    told = house.do(list(deed))
                if turn >= 0.2:
                    after = {name: set(plain.reading(rooms[-1], saying)) for name, saying in watched.items()}
                    self.assertEqual(told, tuple(name for name in watched if before[name] != after[name]))
                    turned += len(told)
                    done += 1
                self.assertTrue(house.room == rooms[-1])
                self.assertEqual(house.story, tuple(deeds))
                self.assertEqual(house.sayings(), tuple(watched.items()))
                self.assertEqual(house.readings(), tuple((name, plain.reading(rooms[-1], saying)) for name, saying in watched.items()))
            if house.story:
                self.assertTrue(replayed(room, list(house.story)).room == house.room)
        self.assertGreater(turned, 150)
        self.assertGreater(done, 500)

    def test_a_thing_that_was_taken_stands_in_its_old_place(self):
        room = the_room()
        house = Watched(room)
        house.watch("cups", of_word("cup"))
        self.assertEqual(house.do(("take", "a")), ("cups",))
        self.assertEqual(house.undo(), ("cups",))
        self.assertEqual((house.room.things, house.readings()), (("a", "b", "c"), (("cups", ("a", "b", "c")),)))
        self.assertTrue(house.room == room)
        # Not so where it is put anew: it is the last one then, and the reading is of the same things.
        for deed in (("take", "a"), *back_deeds(room, ("take", "a"))):
            house.do(deed)
        self.assertEqual((house.room.things, house.readings()), (("b", "c", "a"), (("cups", ("b", "c", "a")),)))
        self.assertEqual(house.watch("cups", any_thing()), ())

    def test_again_until_a_deed_is_done(self):
        house = Watched(the_room())
        self.raises(("Nothing",), house.undo)
        self.raises(("Nothing",), house.again)
        for thing in ("c", "a"):
            house.do(["mark", "red", thing])
        house.undo()
        house.undo()
        self.raises(("Nothing",), house.undo)
        self.assertEqual((house.again(), house.story), ((), (("mark", "red", "c"),)))
        house.watch("one", of_word("red"))
        self.assertEqual(house.again(), ("one",))
        self.raises(("Nothing",), house.again)
        house.undo()
        self.raises(("BadDeed", "mark"), house.do, ("mark", "red", "b"))
        self.assertEqual(house.again(), ("one",))
        house.undo()
        house.do(("unmark", "cup", "a"))
        self.raises(("Nothing",), house.again)

    def test_watched_names(self):
        room = the_room()
        house = Watched(room)
        for number in range(24):
            self.assertEqual(house.watch(f"n{number}.x", of_word("red")), ())
        self.raises(("TooMany", "watched", 24), house.watch, "more", of_word("red"))
        self.raises(("NoWord", "gone"), house.watch, "more", of_word("gone"))
        self.assertEqual(house.watch("n3.x", of_word("cup")), ("n3.x",))
        self.assertEqual(house.watch("n3.x", top_of("size", any_thing())), ("n3.x",))
        self.assertEqual(house.watch("n3.x", of_word("red")), ())
        self.assertEqual([name for name, _ in house.sayings()], [f"n{number}.x" for number in range(24)])
        self.assertEqual(house.do(("unmark", "red", "b")), tuple(f"n{number}.x" for number in range(24)))

    def test_equality(self):
        room = the_room()

        def made(*calls):
            house = Watched(room)
            for call, *args in calls:
                getattr(house, call)(*args)
            return house

        deed, other = ("mark", "red", "c"), ("mark", "red", "a")
        one, two = ("watch", "one", of_word("red")), ("watch", "two", of_word("cup"))
        self.assertTrue(made() == Watched(Room.read(str(room))))
        self.assertTrue(made(one, ("do", list(deed)), two) == made(("do", deed), one, two))
        self.assertTrue(made(("do", deed), ("undo",), ("again",)) == made(("do", deed)))
        self.assertTrue(made(("do", deed), ("undo",)) == made(("do", deed), ("undo",)))
        for left, right in (((one, two), (two, one)), ((one,), ()), ((one,), (("watch", "one", of_word("cup")),)), ((one,), (("watch", "uno", of_word("red")),)),
                            ((("do", deed), ("undo",)), ()), ((("do", deed), ("do", ("unmark", "red", "c"))), ()),
                            ((("do", deed), ("undo",)), (("do", other), ("undo",))), ((("do", deed), ("do", other)), (("do", other), ("do", deed))),
                            ((("do", deed), ("do", other), ("undo",), ("undo",)), (("do", other), ("do", deed), ("undo",), ("undo",)))):
            self.assertFalse(made(*left) == made(*right))
            self.assertTrue(made(*left) != made(*right))
        for value in ODD_VALUES + (room,):
            self.assertIs(made() == value, False)

    def test_errors(self):
        room = the_room()
        house = Watched(room)
        for value in ODD_VALUES + (str(room), house):
            self.raises(("BadRoom", "room"), Watched, value)
            self.raises(("BadRoom", "room"), replayed, value, value)
        for value in ODD_VALUES + ("One", "one..two", of_word("red")):
            self.raises(("NoName", value), house.watch, value, value)
        for value in ODD_VALUES + ("word red", house):
            self.raises(("BadSaying", "saying"), house.watch, "one", value)
            self.raises(("BadDeed", "deed"), house.do, value)
        for saying, wanted in ((of_word("gone"), ("NoWord", "gone")), (some_of("right", no_thing()), ("NoLink", "right")),
                               (above_of("age", "gone"), ("NoScale", "age")), (above_of("size", "gone"), ("NoWord", "gone"))):
            self.raises(wanted, house.watch, "one", saying)
        for deed, wanted in ((("mark", "gone", "zz"), ("NoWord", "gone")), (("tie", "left", "a", "zz"), ("NoThing", "zz")), (("put", "a"), ("BadDeed", "put")),
                             (("number", "size", "c", None), ("BadDeed", "number"))):
            self.raises(wanted, house.do, deed)
            self.raises(wanted, replayed, room, [("mark", "red", "c"), deed])
        self.assertEqual((house.story, house.sayings(), house.readings()), ((), (), ()))
        for value in ODD_VALUES + ({("mark", "red", "c"): 1}, "mark"):
            if not isinstance(value, (list, tuple)):
                self.raises(("BadDeed", "story"), replayed, room, value)
        self.assertTrue(replayed(room, []) == house)
        self.raises(("BadDeed", "deed"), replayed, room, [("mark", "red", "c"), None])

    def test_soon_enough(self):
        start = time.time()
        rng = drawing(372)
        things = [f"t{k}" for k in range(40)]
        room = Room(things, {f"w{k}": rng.sample(things, 20) for k in range(60)}, {f"l{k}": [(t, u) for t in things[:20] for u in rng.sample(things[20:], 9)] for k in range(8)},
                    {f"s{k}": {t: rng.randint(-9, 9) for t in things} for k in range(8)})
        house = Watched(room)
        for number in range(24):
            house.watch(f"n{number}", drawn_saying(rng, room, 100))
        for _ in range(100):
            deed = drawn_deed(rng, house.room)
            if can_be_done(house.room, deed):
                house.do(deed)
                house.undo()
                house.again()
        self.assertLess(time.time() - start, 30)
