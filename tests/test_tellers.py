import time

from sayable.around import least_around
from sayable.books import Book
from sayable.check_tellers import shows_agreed
from sayable.papers import Denial, Paper
from sayable.reads import readings_in
from sayable.rooms import Room
from sayable.sayings import any_thing, no_thing, of_word, some_of, top_of
from sayable.tellers import Agreed, agreed_crowds, passed_on
from sayable.ways import way_lets
from tests import plain, plain_talk
from tests.helpers import Case, ODD_VALUES, drawing, drawn_room
from tests.test_said import drawn_book

# Values that are no teller.
NO_TELLERS = ODD_VALUES + (["red"], [["red"]], [["red"], [], []], ["red", "l"], [["red"], None], [{"red": 1}, []], ({}, {}), (["red"], "l"), "ab")


def the_box():
    return Room(["p", "q", "r"], {"red": ["p", "q"], "blue": ["r"], "big": ["p"], "small": ["q", "r"]}, {})


def the_tellers():
    return (["red", "blue"], []), (["big", "small"], [])


def drawn_teller(rng, room):
    words, links = [w for w in room.words if rng.random() < 0.6], [link for link in room.links if rng.random() < 0.6]
    return (rng.sample(words, len(words)), rng.sample(links, len(links)))


def drawn_heard(rng, most=6):
    """A book of few places, and one to three tellers."""
    while True:
        rooms = [drawn_room(rng, rng.choice((2, 3, 5)), 3, 2, rng.randint(0, 1), ties=0.3) for _ in range(rng.randint(1, 2))]
        if sum(len(room) for room in rooms) <= most and len({room.stock for room in rooms}) == 1:
            book = Book(rooms, [[t for t in room if rng.random() < 0.3] for room in rooms])
            return book, [drawn_teller(rng, rooms[0]) for _ in range(rng.randint(1, 3))]


class PassedOn(Case):
    def test_examples(self):
        book, (hue, size) = Book([the_box()], [["p"]]), the_tellers()
        self.assertEqual([passed_on(book, [hue, size], "either"), passed_on(book, [size, hue], "plain")],
                         [((("p", "q"),), (("p", "q", "r"),)), ((("p",),), (("p", "q"),))])

    def test_against_the_least_crowds_that_are_said(self):
        rng = drawing(321)
        for _ in range(40):
            book, tellers = drawn_heard(rng)
            for way in plain.TWELVE:
                crowds = [plain_talk.crowds_told(book.rooms, teller, way) for teller in tellers]
                told = plain_talk.told_on(crowds, frozenset(book.meant_places()))
                self.assertEqual(passed_on(book, tellers, way), tuple(plain_talk.as_crowds(book.rooms, places) for places in told))
                self.assertEqual(passed_on(book, tuple(list(teller) for teller in tellers), way), passed_on(book, tellers, way))

    def test_who_says_all_tells_what_is_around(self):
        rng = drawing(322)
        for _ in range(20):
            book, _ = drawn_heard(rng)
            whole = (book.rooms[0].words, book.rooms[0].links)
            for way in plain.TWELVE:
                self.assertEqual(passed_on(book, [whole, whole], way), (least_around(book, way).meant,) * 2)
                self.assertEqual(passed_on(book, [([], [])], way)[0], tuple(room.things if book.meant_places() else () for room in book.rooms))

    def test_errors(self):
        box, (hue, size) = the_box(), the_tellers()
        book = Book([box], [["p"]])
        wide = Book([Room([f"t{k}" for k in range(34)], {}, {})] * 3, [[]] * 3)
        for call in (passed_on, agreed_crowds, lambda *args: shows_agreed(*args, None)):
            for value in ODD_VALUES + (box, [box]):
                self.raises(("BadBook", "book"), call, value, value, value)
            for value in ODD_VALUES + (hue, size, {0: hue}, "ab"):
                self.raises(("BadTeller", "tellers"), call, book, value, value)
            for value in NO_TELLERS:
                self.raises(("BadTeller", "tellers"), call, book, [value], value)
                self.raises(("BadTeller", "tellers"), call, book, [hue, (["none"], ["none"]), value], value)
            for teller, wanted in (((["red", "none", "red"], ["none"]), ("NoWord", "none")), ((["red", "big", "red"], ["none"]), ("Twice", "red")),
                                   ((["red"], ["none"]), ("NoLink", "none")), (([["red"]], []), ("NoWord", ["red"])), (([True], []), ("NoWord", True))):
                self.raises(wanted, call, book, [hue, teller, (["gone"], [])], "no")
            linked = Book([Room(["a"], {}, {"l": [], "k": []})], [[]])
            self.raises(("Twice", "l"), call, linked, [([], ["l", "k", "l"])], "no")
            self.raises(("NoLink", None), call, linked, [([], ["l", "k", "l", None])], "no")
            for value in ODD_VALUES + ("Plain", "either."):
                self.raises(("NoWay", value), call, wide, [([], [])] * 9, value)
        for way in ("plain", "plain.back"):
            self.raises(("NoWay", way), agreed_crowds, wide, [([], [])] * 9, way)
            self.raises(("NoWay", way), shows_agreed, wide, [([], [])] * 9, way, None)
            self.assertIsNone(self.told(passed_on, book, [hue] * 8, way))
        for call in (passed_on, agreed_crowds):
            self.raises(("TooMany", "tellers", 8), call, wide, [([], [])] * 9, "not")
            self.raises(("TooMany", "places", 100), call, wide, [([], [])] * 8, "not")
            self.assertIsNone(self.told(call, book, [hue, size] * 4, "full.back"))
        self.assertIs(shows_agreed(wide, [([], [])], "not", Agreed([[]] * 3, [], [[]], [~any_thing()])), False)
        self.assertIs(shows_agreed(book, [hue] * 8, "not", agreed_crowds(book, [hue] * 8, "not")), True)
        nine = agreed_crowds(book, [hue], "not")
        self.assertIs(shows_agreed(book, [hue] * 9, "not", Agreed(nine.meant, nine.steps, nine.likenesses * 9, nine.told * 9)), False)

    def test_too_many_points_for_one_teller(self):
        things = [f"t{k}" for k in range(13)]
        ring = Room(things, {"w": things}, {"l": [(t, u) for t, u in zip(things, things[1:] + things[:1])] + [(t, t) for t in things]})
        book = Book([ring], [things])
        self.raises(("TooMany", "choices", 5000), passed_on, book, [([], []), ([], ["l"])], "plain")
        self.assertEqual(passed_on(book, [([], []), (["w"], [])], "plain"), ((tuple(things),),) * 2)


class AgreedCrowds(Case):
    def test_papers(self):
        paper = Agreed([["p"]], steps=[], told=["s"], likenesses=[[]])
        self.assertEqual((paper.word, paper.parts, bool(paper)), ("agreed", ((("p",),), (), ((),), ("s",)), True))
        self.assertEqual((paper.meant, paper.steps, paper.likenesses, paper.told), paper.parts)
        self.assertTrue(paper == Agreed((("p",),), (), ((),), ("s",)))
        self.assertFalse(paper == Paper("agreed", *paper.parts))
        self.assertNotIsInstance(paper, Denial)

    def test_examples(self):
        book, (hue, size) = Book([the_box()], [["p"]]), the_tellers()
        found = agreed_crowds(book, [hue, size], "not")
        self.assertEqual([found.meant, found.steps, agreed_crowds(book, [size], "either").meant],
                         [(("p", "q", "r"),), (((0, "q"), 0, (0, "p")), ((0, "r"), 1, (0, "q"))), (("p",),)])

    def check_steps(self, book, tellers, way, paper):
        likeness = [plain.likeness(plain_talk.cut(book.rooms, teller), way) for teller in tellers]
        agreed = Book(book.rooms, paper.meant)
        reached = set(book.meant_places())
        for place, teller, start in paper.steps:
            self.assertIn(start, reached)
            self.assertIn((start, place), likeness[teller])
            self.assertIn((start, place), paper.likenesses[teller])
            self.assertNotIn(place, reached)
            reached.add(place)
        self.assertEqual(reached, set(agreed.meant_places()))
        for teller, pairs, saying in zip(tellers, paper.likenesses, paper.told):
            cut = plain_talk.cut(book.rooms, teller)
            self.assertTrue(plain.is_closed(cut, way, pairs))
            self.assertTrue(way_lets(way, saying))
            self.assertEqual(readings_in(cut, saying), paper.meant)

    def test_against_telling_on_and_on(self):
        rng = drawing(331)
        steps = 0
        for _ in range(70):
            book, tellers = drawn_heard(rng)
            for way in plain.TEN:
                paper = agreed_crowds(book, tellers, way)
                self.assertIsInstance(paper, Agreed)
                crowds = [plain_talk.crowds_told(book.rooms, teller, way) for teller in tellers]
                heard, rounds = frozenset(book.meant_places()), 0
                first = plain_talk.told_on(crowds, heard)
                while True:
                    told = plain_talk.told_on(crowds, heard)[-1]
                    rounds += 1
                    if told == heard:
                        break
                    heard = told
                self.assertLessEqual(rounds, len(book.other_places()) + 1)
                self.assertEqual(paper.meant, plain_talk.as_crowds(book.rooms, heard))
                self.assertTrue(all(places <= heard for places in first))
                self.assertTrue(all(heard in some for some in crowds))
                self.check_steps(book, tellers, way, paper)
                self.assertIs(shows_agreed(book, tellers, way, paper), True)
                steps += len(paper.steps)
        self.assertGreater(steps, 200)

    def test_order_twice_and_one_more(self):
        rng = drawing(332)
        for _ in range(30):
            book, tellers = drawn_heard(rng, 9)
            for way in ("either", "many", "not", "every.back", "full.back"):
                paper = agreed_crowds(book, tellers, way)
                self.assertEqual(agreed_crowds(book, tuple(map(list, tellers)), way), paper)
                self.assertEqual(agreed_crowds(book, tellers[::-1], way).meant, paper.meant)
                self.assertEqual(agreed_crowds(book, tellers + tellers, way).meant, paper.meant)
                more = agreed_crowds(book, [*tellers, drawn_teller(rng, book.rooms[0])], way)
                self.assertTrue(all(set(crowd) <= set(wider) for crowd, wider in zip(paper.meant, more.meant)))
                passed = passed_on(book, tellers, way)[-1]
                self.assertTrue(all(set(crowd) <= set(wider) for crowd, wider in zip(passed, paper.meant)))

    def test_soon_enough(self):
        start = time.time()
        rng = drawing(333)
        things = [f"t{k}" for k in range(16)]
        room = Room(things, {f"w{k}": rng.sample(things, 8) for k in range(6)},
                    {f"l{k}": [(t, u) for t in things for u in things if rng.random() < 0.2] for k in range(3)})
        tellers = [drawn_teller(rng, room) for _ in range(8)]
        flat = [Room(rng.sample(things * 1, 16) + [f"u{k}" for k in range(17)], {f"w{k}": rng.sample(things, 8) for k in range(60)},
                     {f"l{k}": [(t, f"u{rng.randrange(17)}") for t in things] for k in range(8)}) for _ in range(3)]
        wide = [drawn_teller(rng, flat[0]) for _ in range(6)] + [([], ["l0"]), (["w0", "w1"], [])]
        for book, some in ((Book([room], [things[:2]]), tellers), (Book(flat, [["t0"], [], ["t3"]]), wide)):
            for way in plain.TEN:
                self.assertTrue(shows_agreed(book, some, way, agreed_crowds(book, some, way)))
                passed_on(book, some, way)
        self.assertLess(time.time() - start, 90)


class CheckAgreed(Case):
    def test_examples(self):
        book, (hue, size) = Book([the_box()], [["p"]]), the_tellers()
        found = agreed_crowds(book, [hue, size], "not")
        self.assertEqual([shows_agreed(book, [hue, size], "not", found), shows_agreed(book, [size, hue], "not", found),
                          shows_agreed(book, [size], "not", Agreed([["p"]], [], [[]], [of_word("big")]))], [True, False, True])

    def plain_shows(self, book, tellers, way, value):
        """By the words of the document, of values with the right forms."""
        places = [(k, t) for k, crowd in enumerate(value.meant) for t in crowd]
        if len(value.meant) != len(book.rooms) or any(tuple(t for t in room if t in crowd) != crowd for room, crowd in zip(book.rooms, value.meant)):
            return False
        if not set(book.meant_places()) <= set(places) or not len(tellers) == len(value.likenesses) == len(value.told):
            return False
        reached = set(book.meant_places())
        for place, teller, start in value.steps:
            if type(teller) is not int or not 0 <= teller < len(tellers) or place not in places or start not in reached:
                return False
            if (start, place) not in value.likenesses[teller]:
                return False
            reached.add(place)
        if not set(places) <= reached:
            return False
        for teller, pairs, saying in zip(tellers, value.likenesses, value.told):
            cut = plain_talk.cut(book.rooms, teller)
            if not plain.is_closed(cut, way, pairs) or not way_lets(way, saying):
                return False
            if set(saying.words) - set(teller[0]) or set(saying.links) - set(teller[1]):
                return False
            if tuple(plain.reading(room, saying) for room in cut) != value.meant:
                return False
        return True

    def bent(self, rng, paper, book, tellers):
        meant, steps = [list(crowd) for crowd in paper.meant], list(paper.steps)
        likenesses, told = [list(pairs) for pairs in paper.likenesses], list(paper.told)
        places = book.places()
        turn, at = rng.randrange(14), rng.randrange(len(tellers))
        if turn == 0:
            meant[0] = rng.sample(meant[0], len(meant[0]))
        elif turn == 1:
            meant[-1] = [t for t in book.rooms[-1] if t in meant[-1] or rng.random() < 0.4]
        elif turn == 2 and meant[0]:
            meant[0].pop(rng.randrange(len(meant[0])))
        elif turn == 3 and steps:
            steps.pop(rng.randrange(len(steps)))
        elif turn == 4:
            steps = rng.sample(steps, len(steps))
        elif turn == 5:
            steps.insert(rng.randint(0, len(steps)), (rng.choice(places), at, rng.choice(places)))
        elif turn == 6 and steps:
            step = rng.randrange(len(steps))
            steps[step] = (steps[step][0], rng.choice([at, len(tellers), -1, True]), steps[step][2])
        elif turn == 7 and likenesses[at]:
            likenesses[at].pop(rng.randrange(len(likenesses[at])))
        elif turn == 8:
            likenesses[at].append((rng.choice(places), rng.choice(places)))
        elif turn == 9:
            likenesses[at] = plain.likeness(plain_talk.cut(book.rooms, tellers[at]), self.way)
        elif turn == 10:
            told[at] = rng.choice([any_thing(), ~~told[at] & told[at], told[at] | of_word("w0"), told[0], of_word("w9")])
        elif turn == 11:
            steps = steps + steps[:2]
        elif turn == 12:
            likenesses = [rng.sample(pairs, len(pairs)) + pairs[:1] for pairs in likenesses]
        else:
            told, likenesses = told[::-1], likenesses[::-1]
        return Agreed(meant, steps, likenesses, told)

    def test_bent_papers(self):
        rng = drawing(341)
        seen = {True: 0, False: 0}
        for _ in range(80):
            book, tellers = drawn_heard(rng)
            self.way = rng.choice(plain.TEN)
            paper = agreed_crowds(book, tellers, self.way)
            for _ in range(10):
                value = self.bent(rng, paper, book, tellers)
                wanted = self.plain_shows(book, tellers, self.way, value)
                self.assertIs(shows_agreed(book, tellers, self.way, value), wanted)
                seen[wanted] += 1
        self.assertGreater(min(seen.values()), 150)

    def test_steps_that_lead_more_than_once(self):
        book, (hue, size) = Book([the_box()], [["p"]]), the_tellers()
        found = agreed_crowds(book, [hue, size], "not")
        pairs = [[((0, "p"), (0, "q")), ((0, "q"), (0, "p"))], [((0, "q"), (0, "r")), ((0, "r"), (0, "r"))]]
        steps = [((0, "q"), 0, (0, "p")), ((0, "p"), 0, (0, "q")), ((0, "q"), 0, (0, "p")), ((0, "r"), 1, (0, "q")), ((0, "r"), 1, (0, "r"))]
        self.assertIs(shows_agreed(book, [hue, size], "not", Agreed(found.meant, steps, pairs, [any_thing(), any_thing()])), True)
        self.assertIs(shows_agreed(book, [hue, size], "not", Agreed(found.meant, steps[::-1], pairs, [any_thing(), any_thing()])), False)

    def test_crowds_that_lack_what_is_meant(self):
        book, (hue, size) = Book([the_box()], [["p"]]), the_tellers()
        for crowd, saying in (([], no_thing()), (["r"], of_word("blue")), (["p", "q"], of_word("red"))):
            self.assertIs(shows_agreed(book, [hue], "not", Agreed([crowd], [((0, "q"), 0, (0, "p"))] * ("q" in crowd), [[((0, "p"), (0, "q"))]], [saying])), "p" in crowd)
            self.assertIs(shows_agreed(book.changed(meant=[[]]), [hue], "not", Agreed([crowd], [], [[]], [saying])), crowd == [])

    def test_any_values(self):
        book, (hue, size) = Book([the_box()], [["p"]]), the_tellers()
        tellers = [list(hue), list(size)]
        found = agreed_crowds(book, tellers, "not")
        meant, steps, pairs, told = found.parts
        self.assertIs(shows_agreed(book, tellers, "not", Agreed([list(meant[0])], [list(step) for step in steps], [list(some) for some in pairs], list(told))), True)
        for value in ODD_VALUES + (Paper("agreed", *found.parts), (0, "p"), ((0, "p"), (0, "q")), top_of("s", any_thing()), some_of("l", any_thing())):
            self.assertIs(shows_agreed(book, tellers, "not", value), False)
            self.assertIs(shows_agreed(book, tellers, "not", Agreed(value, steps, pairs, told)), False)
            self.assertIs(shows_agreed(book, tellers, "not", Agreed([value], steps, pairs, told)), False)
            self.assertIs(shows_agreed(book, tellers, "not", Agreed([[*meant[0], value]], steps, pairs, told)), False)
            self.assertIs(shows_agreed(book, tellers, "not", Agreed(meant, value, pairs, told)), False)
            self.assertIs(shows_agreed(book, tellers, "not", Agreed(meant, [*steps, value], pairs, told)), False)
            self.assertIs(shows_agreed(book, tellers, "not", Agreed(meant, [*steps, (value, 0, (0, "p"))], pairs, told)), False)
            self.assertIs(shows_agreed(book, tellers, "not", Agreed(meant, [*steps, ((0, "q"), value, (0, "p"))], pairs, told)), False)
            if value != (0, "p"):
                self.assertIs(shows_agreed(book, tellers, "not", Agreed(meant, [*steps, ((0, "q"), 0, value)], pairs, told)), False)
            self.assertIs(shows_agreed(book, tellers, "not", Agreed(meant, steps, value, told)), False)
            self.assertIs(shows_agreed(book, tellers, "not", Agreed(meant, steps, [pairs[0], value], told)), False)
            if value != ((0, "p"), (0, "q")):
                self.assertIs(shows_agreed(book, tellers, "not", Agreed(meant, steps, [[*pairs[0], value], pairs[1]], told)), False)
            self.assertIs(shows_agreed(book, tellers, "not", Agreed(meant, steps, pairs, value)), False)
            self.assertIs(shows_agreed(book, tellers, "not", Agreed(meant, steps, pairs, [told[0], value])), False)
            self.assertIs(shows_agreed(book, tellers, "not", Agreed(meant, steps, pairs, [*told, value])), False)
        for odd in (((False, "q"), 0, (0, "p")), ((0, "q"), False, (0, "p")), ((0, "q"), 0, (False, "p"))):
            self.assertIs(shows_agreed(book, tellers, "not", Agreed(meant, [odd, *steps[1:]], pairs, told)), False)
        self.assertIs(shows_agreed(book, tellers, "not", Agreed(meant, steps, [[((0, "p"), (False, "q"))], pairs[1]], told)), False)
