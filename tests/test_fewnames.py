import itertools
import time

from sayable.books import Book
from sayable.check_said import shows_said
from sayable.check_words import shows_names
from sayable.fewnames import FewNames, fewest_names
from sayable.papers import Denial, Paper
from sayable.reads import reading_of
from sayable.rooms import Room
from sayable.said import Said, Unsaid, least_depth, say_book
from sayable.sayings import any_thing, both_of, of_word, some_of
from sayable.ways import is_way_below, way_lets
from tests import plain
from tests.helpers import Case, ODD_VALUES, drawing, drawn_room


def the_two():
    return Room(["x", "y"], {}, {"touch": [("x", "y"), ("y", "x")]}), Room(["x", "y"], {"cup": ["x", "y"]}, {})


def all_sets(room):
    """All sets of things in order: fewer first, then that which has the first thing that one alone has."""
    sets = [names for size in range(len(room) + 1) for names in itertools.combinations(room.things, size)]
    return sorted(sets, key=lambda names: (len(names), [thing not in names for thing in room]))


def said_depths(room, things, way):
    """For each thing the least depth at which it is said alone, against all crowds that sayings read to."""
    named = Room(room.things, {**room.word_lists(), **{f"name.{t}": [t] for t in things}}, room.link_lists())
    levels = plain.crowd_levels([named], way)
    return {thing: plain.depth_said(levels, [(0, thing)]) for thing in room}


def exchanges(room):
    """All exchanges of things that keep words and links, by the definition of point 14."""
    for moved in itertools.permutations(room.things):
        to = dict(zip(room.things, moved))
        if all(room.holds(word, thing) == room.holds(word, to[thing]) for word in room.words for thing in room) and all(
                {(to[x], to[y]) for x, y in room.pairs_of(link)} == set(room.pairs_of(link)) for link in room.links):
            yield to


def thing_book(room, thing, things):
    return Book([room.named(things)], [[thing]])


class FewestNames(Case):
    def test_paper(self):
        paper = FewNames(["x"], lacking=[], told=[["x", any_thing()]])
        self.assertEqual((paper.word, paper.parts), ("fewnames", (("x",), (("x", any_thing()),), ())))
        self.assertEqual((paper.things, paper.told, paper.lacking, bool(paper)), (*paper.parts, True))
        self.assertFalse(paper == Paper("fewnames", *paper.parts))
        self.assertNotIsInstance(paper, Denial)

    def test_examples(self):
        touching, twins = the_two()
        self.assertEqual([fewest_names(touching, "plain").things, fewest_names(twins, "either").things, fewest_names(twins, "not").things],
                         [("x",), ("x", "y"), ("x",)])
        self.assertEqual([(thing, saying.depth) for thing, saying in fewest_names(touching, "plain").told], [("x", 0), ("y", 1)])
        self.assertIs(shows_names(twins, "not", fewest_names(twins, "either")), False)

    def test_against_all_sets_in_order(self):
        rng = drawing(211)
        sizes = {}
        for _ in range(25):
            room = drawn_room(rng, 4, rng.choice((0, 1)), 1, ties=rng.choice((0.1, 0.4)))
            found = {}
            for way in plain.TWELVE:
                depths = {things: said_depths(room, things, way) for things in all_sets(room)}
                first = next(things for things in all_sets(room) if None not in depths[things].values())
                paper = fewest_names(room, way)
                self.assertIsInstance(paper, FewNames)
                self.assertEqual(paper.things, first)
                self.check_told(room, way, paper, depths)
                self.assertIs(shows_names(room, way, paper), True)
                self.assertTrue(fewest_names(Room.read(str(room)), way) == paper)
                sizes[len(first)] = sizes.get(len(first), 0) + 1
                found[way] = first
            for way in plain.TWELVE:
                for more in plain.TWELVE:
                    self.assertTrue(not is_way_below(way, more) or len(found[more]) <= len(found[way]))
                for to in exchanges(room):
                    self.assertTrue(all(to[thing] == thing for thing in room) or any(to[thing] != thing for thing in found[way]))
        self.assertGreater(len(sizes), 3)

    def check_told(self, room, way, paper, depths):
        named = room.named(list(paper.things))
        self.assertEqual([row[0] for row in paper.told], list(room.things))
        for thing, saying in paper.told:
            self.assertTrue(way_lets(way, saying))
            self.assertEqual(saying.depth, depths[paper.things][thing])
            self.assertEqual(reading_of(named, saying), (thing,))
        self.assertEqual([row[0] for row in paper.lacking], [things for things in all_sets(room) if len(things) == len(paper.things) - 1])
        for things, thing, unsaid in paper.lacking:
            self.assertEqual(thing, next(t for t in room if depths[things][t] is None))
            self.assertIsInstance(unsaid, Unsaid)
            self.assertIs(shows_said(thing_book(room, thing, things), way, unsaid), True)

    def test_twins(self):
        """Of twins that no link joins all but one are named, in ways that do not let "not" all."""
        for many in (2, 3, 4):
            things = [f"t{k}" for k in range(many)]
            for room in (Room([*things, "z"], {"w": ["z"]}, {"l": [(t, "z") for t in things]}), Room(["z", *things], {"v": things, "u": ["z"]}, {})):
                for way in plain.TWELVE:
                    wanted = many - 1 if way.split(".")[0] in ("not", "full") else many
                    self.assertEqual(fewest_names(room, way).things, tuple(things[:wanted]))

    def test_sizes(self):
        """More than a hundred sets of one size are refused only where they come to be asked."""
        def alike(many, **words):
            return Room([f"t{k}" for k in range(many)], words, {})

        # Of fourteen things there are 91 sets of two, and 364 of three.
        marked = alike(14, **{f"w{k}": [f"t{k}"] for k in range(12)})
        self.assertEqual(fewest_names(marked, "either").things, ("t12", "t13"))
        self.assertEqual(fewest_names(marked, "not").things, ("t12",))
        self.raises(("TooMany", "sets", 100), fewest_names, alike(14, **{f"w{k}": [f"t{k}"] for k in range(11)}), "either")
        self.raises(("TooMany", "sets", 100), fewest_names, alike(15, **{f"w{k}": [f"t{k}"] for k in range(13)}), "either")
        self.assertEqual(fewest_names(alike(15, **{f"w{k}": [f"t{k}"] for k in range(14)}), "either").things, ("t14",))
        self.assertEqual(len(fewest_names(alike(8), "either").things), 8)
        self.raises(("TooMany", "sets", 100), fewest_names, alike(9), "either")
        self.assertEqual(len(fewest_names(alike(40, **{f"w{k}": [f"t{k}"] for k in range(39)}), "either").lacking), 1)

    def test_sixty_words(self):
        words = {f"w{k}": ["a", "b"] for k in range(60)}
        self.raises(("TooMany", "words", 60), fewest_names, Room(["a", "b"], words, {}), "not")
        told = Room(["a", "b"], {**words, "w7": ["a"]}, {})
        self.assertEqual(fewest_names(told, "not").things, ())
        self.raises(("TooMany", "words", 60), fewest_names, told, "either")
        self.assertEqual(fewest_names(told.cut(told.words[:59]), "either").things, ("b",))
        forty = Room([f"t{k}" for k in range(40)], {f"w{k}": [] for k in range(60)}, {})
        self.raises(("TooMany", "words", 60), fewest_names, forty, "either")
        fifteen = Room([f"t{k}" for k in range(15)], {f"w{k}": [] for k in range(59)}, {})
        self.raises(("TooMany", "sets", 100), fewest_names, fifteen, "either")

    def test_order_of_errors(self):
        long = "a.b.c.d.e.f"
        room = Room(["p", "q", long], {"name.q": [], "name.p": []}, {})
        for value in ODD_VALUES + ([room], "room"):
            self.raises(("BadRoom", "room"), fewest_names, value, value)
            self.raises(("NoWay", value), fewest_names, room, value)
        self.raises(("TooMany", "stems", 6), fewest_names, room, "plain")
        self.raises(("Twice", "name.p"), fewest_names, room.kept(["q", "p"]), "plain")
        self.raises(("Twice", "name.q"), fewest_names, Room(["q", "p"], {"name.q": [], "name.p": []}, {}), "plain")
        self.raises(("Twice", "name.q"), fewest_names, Room(["p", "q"], {"name.q": ["p"], "name": ["q"]}, {}), "plain")
        self.assertEqual(fewest_names(Room(["a.b.c.d.e", "b"], {}, {}), "not").things, ("a.b.c.d.e",))

    def test_soon_enough(self):
        start = time.time()
        rng = drawing(212)
        things = [f"t{k}" for k in range(8)]
        for density in (0.1, 0.3, 1):
            room = Room(things, {}, {f"l{k}": [(t, u) for t in things for u in things if rng.random() < density] for k in range(3)})
            for way in plain.TWELVE:
                self.assertIs(shows_names(room, way, fewest_names(room, way)), True)
        forty = [f"t{k}" for k in range(40)]
        flat = Room(forty, {f"w{k}": rng.sample(forty, 12) for k in range(5)},
                    {f"l{k}": [(t, u) for t in forty[:12] for u in rng.sample(forty[12:], 3)] for k in range(8)})
        for way in plain.TWELVE:
            self.told(fewest_names, flat, way)
        self.assertLess(time.time() - start, 60)


class ShownNames(Case):
    def test_any_enough_set(self):
        touching, twins = the_two()
        unsaid = say_book(thing_book(twins, "y", []), "not")
        value = FewNames(["y"], [["x", ~of_word("name.y")], ["y", both_of(of_word("name.y"), any_thing())]], [[[], "y", unsaid]])
        self.assertIs(shows_names(twins, "not", value), True)
        self.assertIs(shows_names(twins, "full.back", value), True)
        self.assertIs(shows_names(twins, "either", value), False)
        deep = some_of("touch", some_of("touch", some_of("touch", of_word("name.x"))))
        unsaid = say_book(thing_book(touching, "y", []), "plain")
        self.assertIs(shows_names(touching, "plain", FewNames(["x"], [["x", of_word("name.x")], ["y", deep]], [[(), "y", unsaid]])), True)

    def test_bent_papers(self):
        touching, _ = the_two()
        found = fewest_names(touching, "plain")
        (_, thing, unsaid), = found.lacking
        (_, one), (_, other) = found.told
        good = [["x"], [["x", one], ["y", other]], [[[], "x", unsaid]]]
        self.assertEqual(thing, "x")
        self.assertIs(shows_names(touching, "plain", FewNames(*good)), True)
        another = say_book(thing_book(touching, "y", []), "plain")
        self.assertIs(shows_names(touching, "plain", FewNames(*good[:2], [[[], "y", another]])), True)
        for things in (["y"], [], ["x", "x"], ["z"], ["y", "x"], ["x", "y"], "x", None, [None]):
            self.assertIs(shows_names(touching, "plain", FewNames(things, *good[1:])), False)
        for told in ([good[1][0]], good[1][::-1], good[1] + [["x", one]], [["x", other], ["y", one]], None, [], [["x", str(one)], good[1][1]],
                     [["x", one, one], good[1][1]], [None, good[1][1]], [["x", one & of_word("name.y")], good[1][1]],
                     [["x", one], ["y", some_of("held", one)]], [["x", ~other], good[1][1]], [["x", one], ["y", of_word("name.y")]]):
            self.assertIs(shows_names(touching, "plain", FewNames(good[0], told, good[2])), False)
        for lacking in ([], None, good[2] * 2, [[[], "y", unsaid]], [[[], "x", another]], [[["x"], "x", unsaid]], [[[], "z", unsaid]],
                        [[[], None, unsaid]], [[[], "x", None]], [[[], "x"]], [[[], "x", unsaid, 1]], [None], [[[], "x", one]],
                        [[[], "x", Unsaid(unsaid.point, unsaid.place, [])]], [[[], "x", Denial("unsaid", *unsaid.parts)]],
                        [[[], "x", Said(one, None, None, ())]]):
            self.assertIs(shows_names(touching, "plain", FewNames(*good[:2], lacking)), False)
        self.assertIs(shows_names(touching, "plain", FewNames(good[0], {"y": other, "x": one}, good[2])), True)

    def test_things_in_the_order_of_the_room(self):
        room = Room(["b", "a"], {}, {})
        paper = fewest_names(room, "either")
        self.assertEqual(paper.things, ("b", "a"))
        self.assertEqual([row[:2] for row in paper.lacking], [(("b",), "a"), (("a",), "b")])
        self.assertIs(shows_names(room, "either", paper), True)
        self.assertIs(shows_names(room, "either", FewNames(["a", "b"], paper.told, paper.lacking)), False)
        self.assertIs(shows_names(room, "either", FewNames(paper.things, paper.told, paper.lacking[::-1])), False)
        self.assertIs(shows_names(room, "either", FewNames(paper.things, paper.told[::-1], paper.lacking)), False)

    def test_errors_and_bounds(self):
        touching, _ = the_two()
        long = Room(["p", "a.b.c.d.e.f"], {"name.p": []}, {})
        none = FewNames((), (), ())
        for value in ODD_VALUES + ([touching], "room"):
            self.raises(("BadRoom", "room"), shows_names, value, value, value)
            self.raises(("NoWay", value), shows_names, long, value, value)
            self.assertIs(shows_names(touching, "plain", value), False)
            self.assertIs(shows_names(touching, "plain", FewNames(value, value, value)), False)
        self.assertIs(shows_names(long, "plain", none), False)
        self.raises(("Twice", "name.p"), shows_names, long.kept(["p"]), "plain", none)
        one = Room(["p"], {}, {})
        self.assertIs(shows_names(one, "plain", FewNames((), [("p", any_thing())], ())), True)

    def test_more_than_a_hundred_sets(self):
        """They are not right, also where only some smaller number of things has so many sets."""
        def whole(many):
            things = [f"t{k}" for k in range(many)]
            room = Room(things, {}, {})
            rows = []
            for left_out in reversed(things):
                fewer = [t for t in things if t != left_out]
                rows.append((fewer, left_out, say_book(thing_book(room, left_out, fewer), "either")))
            return room, FewNames(things, [(t, of_word(f"name.{t}")) for t in things], rows)

        def some(many, named):
            """Things of which these first ones are told apart by nothing, all others by words."""
            things = [f"t{k}" for k in range(many)]
            room = Room(things, {f"w{k}": [f"t{k}"] for k in range(named, many)}, {})
            rows = []
            for fewer in itertools.combinations(things, named - 1):
                lacking = next(t for t in things[:named] if t not in fewer)
                rows.append((fewer, lacking, say_book(thing_book(room, lacking, fewer), "either")))
            told = [(t, of_word(f"name.{t}" if k < named else f"w{k}")) for k, t in enumerate(things)]
            return room, FewNames(things[:named], told, rows)

        # Of nine things there are 84 sets of three, and 126 of four.
        for many, named, wanted in ((8, 4, True), (9, 3, True), (9, 4, False), (14, 2, True), (15, 2, False)):
            self.assertIs(shows_names(some(many, named)[0], "either", some(many, named)[1]), wanted)
        self.assertIs(shows_names(whole(8)[0], "either", whole(8)[1]), True)
        self.assertIs(shows_names(whole(9)[0], "either", whole(9)[1]), False)

    def test_more_than_sixty_words(self):
        words = {f"w{k}": [] for k in range(59)}
        room = Room(["a", "b"], words, {})
        less = room.cut(room.words[:58])
        paper = fewest_names(less, "either")
        self.assertEqual(paper.things, ("a", "b"))
        self.assertIs(shows_names(less, "either", paper), True)
        self.assertIs(shows_names(room, "either", paper), False)
        self.assertIsNone(least_depth(thing_book(room, "a", ["b"]), "either"))
