import time

from sayable.check_talks import shows_talk
from sayable.loose import Loose, fillings
from sayable.papers import Denial, Paper
from sayable.priced import Priced
from sayable.rooms import Room
from sayable.sayings import above_of, any_thing, no_thing, of_word, some_of, top_of
from sayable.standings import Standing, picked_by
from sayable.talks import Speechless, Talk, cheapest_talk
from tests import plain_talk
from tests.helpers import Case, ODD_VALUES, drawing, drawn_room, drawn_saying
from tests.test_standings import drawn_pick, drawn_standing, the_shelf, with_talk_words


def beside_it():
    return some_of("left", of_word("it"), True)


def the_list():
    return Priced([(of_word("red"), 3), (beside_it(), 1), (some_of("left", of_word("it")), 6)])


def drawn_talk(rng, most=4, many=3, phrases=4):
    """Rooms, a priced list, and goals, some of which are picked by what is spoken."""
    rooms = [drawn_room(rng, most, 2, 1, rng.randint(0, 1)) for _ in range(rng.randint(1, many))]
    rooms = [Room(room.things, room.word_lists(), room.link_lists(), rooms[0].scale_dicts() and {"s0": {t: rng.randint(0, 3) for t in room}})
             for room in rooms]
    sayings = [with_talk_words(rng, drawn_saying(rng, rooms[0], 5), 0.6) for _ in range(rng.randint(1, phrases))]
    priced = Priced([(saying, rng.randint(0, 5)) for saying in sayings])
    goals = []
    standing = Standing()
    for _ in range(rng.randint(1, 3)):
        told = [one for one in (picked_by(rooms, standing, saying) for saying in sayings) if one]
        goal = rng.choice(told) if told and rng.random() < 0.8 else drawn_pick(rng, rooms)
        standing = standing.behind(goal)
        if not goals or rng.random() < 0.7:
            goals.append([rng.sample(crowd, len(crowd)) for crowd in goal])
    return rooms, priced, goals


def rings(*sizes):
    """Rings, in each of which one thing is the first one; a link leads from each thing to all."""
    rooms = []
    for size in sizes:
        things = [f"t{k}" for k in range(size)]
        rooms.append(Room(things, {"w": things[:1]}, {"l": list(zip(things, things[1:] + things[:1])), "all": [(t, u) for t in things for u in things]}))
    return rooms


def next_one():
    """The first thing where nothing was picked, otherwise what stands behind it."""
    return (of_word("w") & ~some_of("all", of_word("it"))) | some_of("l", of_word("it"), True)


class CheapestTalk(Case):
    def test_papers(self):
        now = Standing([["a"]])
        talk, none = Talk([0, 1], prices=[[0, now, 3]], price=4), Speechless(standings=[[0, now]])
        self.assertEqual((talk.word, talk.parts, bool(talk)), ("talk", ((0, 1), 4, ((0, now, 3),)), True))
        self.assertEqual((talk.phrases, talk.price, talk.prices), talk.parts)
        self.assertEqual((none.word, none.parts, none.standings, bool(none)), ("speechless", (((0, now),),), ((0, now),), False))
        self.assertTrue(talk == Talk((0, 1), 4, ((0, Standing([["a"]]), 3),)) and none == Speechless([(0, Standing([["a"]]))]))
        self.assertFalse(talk == Paper("talk", *talk.parts) or none == Denial("speechless", *none.parts) or none == Speechless([(0, Standing())]))
        self.assertIsInstance(none, Denial)
        self.assertNotIsInstance(talk, Denial)

    def test_examples(self):
        shelf, list_of = the_shelf(), the_list()
        found = cheapest_talk([shelf], list_of, [[["c"]]])
        self.assertEqual([bool(found), found.phrases, found.price, cheapest_talk([shelf], list_of, [[["c"]], [["a"]]]).price], [True, (0, 1), 4, 13])
        self.assertEqual([cheapest_talk([shelf], list_of, [[["b"]], [["b"]]]).phrases, bool(cheapest_talk([shelf], list_of, [[["a", "c"]]]))],
                         [(0, 0), False])
        self.raises(("NoThing", "d"), cheapest_talk, [shelf], list_of, [[["d"]]])

    def check_paper(self, rooms, priced, goals):
        paper = cheapest_talk(rooms, priced, goals)
        least = plain_talk.least_prices(rooms, priced, goals)[plain_talk.BEGIN]
        self.assertIs(shows_talk(rooms, priced, goals, paper), True)
        if least is None:
            self.assertIsInstance(paper, Speechless)
            self.assertTrue(plain_talk.are_shut(rooms, priced, goals, paper.standings))
            return None
        self.assertIsInstance(paper, Talk)
        self.assertEqual((paper.price, plain_talk.talk_price(rooms, priced, goals, paper.phrases)), (least, least))
        self.assertTrue(plain_talk.are_bounds(rooms, priced, goals, paper.prices, least))
        self.assertTrue(any(row[0] == 0 and row[1] == Standing() for row in paper.prices))
        return least

    def test_against_a_search_by_states(self):
        rng = drawing(301)
        told = {}
        for _ in range(200):
            rooms, priced, goals = drawn_talk(rng)
            paper = cheapest_talk(rooms, priced, goals)
            least = self.check_paper(rooms, priced, goals)
            told[least] = told.get(least, 0) + 1
            again = [[list(reversed(crowd)) for crowd in goal] for goal in goals]
            self.assertEqual(cheapest_talk(tuple(rooms), Priced(list(priced.rows)), tuple(again)), paper)
        self.assertGreater(told[None], 30)
        self.assertGreater(sum(told[price] for price in told if price), 50)

    def test_against_all_short_rows_of_phrases(self):
        rng = drawing(302)
        many = 0
        for _ in range(60):
            rooms, priced, goals = drawn_talk(rng, 3, 2, 3)
            paper, least = cheapest_talk(rooms, priced, goals), plain_talk.least_of_short(rooms, priced, goals, 4)
            if least is not None:
                many += 1
                self.assertLessEqual(paper.price, least)
            if paper and len(paper.phrases) < 5:
                self.assertEqual(paper.price, least)
        self.assertGreater(many, 15)

    def test_more_phrases_prices_and_goals(self):
        rng = drawing(303)
        for _ in range(60):
            rooms, priced, goals = drawn_talk(rng)
            least = self.check_paper(rooms, priced, goals)
            more = priced.joined(Priced.alike(rng.randint(0, 3), with_talk_words(rng, drawn_saying(rng, rooms[0], 5))))
            now = self.check_paper(rooms, more, goals)
            self.assertTrue(least is None or now <= least)
            at = rng.randrange(len(priced))
            now = self.check_paper(rooms, priced.with_price(at, priced.prices[at] + 4), goals)
            self.assertTrue((now is None) == (least is None) and (now is None or now >= least))
            for fewer in [goals[:-1]] + [goals[:k] + goals[k + 1:] for k in range(len(goals))]:
                if fewer:
                    now = self.check_paper(rooms, priced, fewer)
                    self.assertTrue(least is None or now <= least)
            twice = self.check_paper(rooms, priced, [goals[0], *goals])
            self.assertTrue(twice is None or least <= twice)
            alone = self.check_paper(rooms[:1], priced, [goal[:1] for goal in goals])
            self.assertTrue(least is None or alone <= least)

    def test_a_goal_told_twice_is_picked_twice(self):
        shelf = the_shelf()
        red = Priced([(of_word("red"), 3), (any_thing(), 1)])
        self.assertEqual(cheapest_talk([shelf], red, [[["b"]]] * 4).parts[:2], ((0, 0, 0, 0), 12))
        self.assertEqual(cheapest_talk([shelf], red, [[["b"]], [["c", "a", "b"]], [["b"]]]).parts[:2], ((0, 1, 0), 7))

    def test_landmarks_and_steps(self):
        """A long way by small steps, or a dear landmark in the middle of it."""
        things = [f"t{k}" for k in range(12)]
        row = Room(things, {"start": ["t0"], "landmark": ["t8"]}, {"next": list(zip(things, things[1:]))})
        step = some_of("next", of_word("it"), True)
        for dear, wanted in ((3, ((1, 2, 2), 5)), (20, ((0, *[2] * 10), 11))):
            priced = Priced([(of_word("start"), 1), (of_word("landmark"), dear), (step, 1)])
            self.assertEqual(cheapest_talk([row], priced, [[["t10"]]]).parts[:2], wanted)
        back = Priced([(of_word("start"), 1), (step, 1), (of_word("first"), 2), (of_word("other"), 0)])
        self.assertEqual(cheapest_talk([row], back, [[["t2"]], [["t0"]], [["t1"]]]).parts[:2], ((0, 1, 1, 3, 0, 3), 4))
        self.assertEqual(cheapest_talk([row], back, [[["t2"]], [["t1"]]]).parts[:2], ((0, 1, 1, 3), 3))

    def test_a_dead_end(self):
        """The first phrase bars the second one for good."""
        things = ["a", "b", "c"]
        room = Room(things, {"w": ["a"], "v": ["b"]}, {"all": [(t, u) for t in things for u in things]})
        early = of_word("v") & ~some_of("all", of_word("it"))
        for sayings in ([of_word("w"), early], [early, of_word("w")]):
            priced = Priced.alike(2, *sayings)
            self.assertEqual(self.check_paper([room], priced, [[["b"]]]), 2)
            self.assertEqual(self.check_paper([room], priced, [[["b"]], [["a"]]]), 4)
            self.assertIsNone(self.check_paper([room], priced, [[["a"]], [["b"]]]))

    def test_free_phrases(self):
        ring = rings(5)
        free = Priced([(next_one(), 0), (some_of("l", of_word("it")), 0)])
        for thing in ring[0]:
            self.assertEqual(self.check_paper(ring, free, [[[thing]]] * 2), 0)
        paper = cheapest_talk(ring, free, [[["t3"]]])
        self.assertEqual(paper.prices, ((0, Standing(), 0),))

    def test_rooms_that_fill_a_loose_room(self):
        """Who is understood in the book of the fillings is understood in the room as it is."""
        rng = drawing(304)
        many = 0
        for _ in range(80):
            rooms, priced, _ = drawn_talk(rng, 4, 1)
            facts = [("word", "w0", t) for t in rooms[0]] + [("link", "l0", t, u) for t in rooms[0] for u in rooms[0]]
            loose = Loose(rooms[0], rng.sample(facts, rng.randint(1, 2)))
            filled = list(fillings(loose))
            told = [one for one in (picked_by(filled, Standing(), saying) for saying in priced.sayings) if one]
            goals = [[crowd for crowd in rng.choice(told)] if told else drawn_pick(rng, filled)]
            paper = cheapest_talk(filled, priced, goals)
            if paper:
                many += 1
                at = filled.index(rooms[0])
                alone = [[goal[at]] for goal in goals]
                cut = next(size for size in range(len(paper.phrases) + 1)
                           if plain_talk.talk_price([rooms[0]], priced, alone, paper.phrases[:size]) is not None)
                self.assertLessEqual(cheapest_talk([rooms[0]], priced, alone).price, priced.price_of([]) + sum(priced.prices[k] for k in paper.phrases[:cut]))
        self.assertGreater(many, 20)

    def test_two_thousand_states(self):
        rooms, priced = rings(5, 7, 8, 9), Priced([(next_one(), 1)])
        for steps, wanted in ((1999, None), (2000, ("TooMany", "standings", 2000)), (2519, ("TooMany", "standings", 2000))):
            goal = [[room.things[(steps - 1) % len(room)]] for room in rooms]
            self.assertEqual(self.told(cheapest_talk, rooms, priced, [goal]), wanted)
            if wanted is None:
                paper = cheapest_talk(rooms, priced, [goal])
                self.assertEqual(paper.parts[:2], ((0,) * 1999, 1999))
                self.assertIs(shows_talk(rooms, priced, [goal], paper), True)
            else:
                value = Talk([0] * steps, steps, [(0, Standing(), steps)])
                self.assertIs(shows_talk(rooms, priced, [goal], value), False)
        for steps, wanted in ((1999, True), (2000, False)):
            goal = [[room.things[(steps - 1) % len(room)]] for room in rooms]
            self.assertIs(shows_talk(rooms, Priced([(next_one(), 0)]), [goal], Talk([0] * steps, 0, [])), wanted)
        shut = rings(2, 27, 37)
        self.assertEqual(len(cheapest_talk(shut, priced, [[["t0", "t1"], ["t0"], ["t0"]]]).standings), 2000)
        self.raises(("TooMany", "standings", 2000), cheapest_talk, rings(14, 11, 13), priced, [[["t0", "t1"], ["t0"], ["t0"]]])

    def test_errors(self):
        shelf, list_of, goals = the_shelf(), the_list(), [[["c"]]]
        named = Room(["a"], {"first": [], "it": [], "other": []}, {"left": []})
        for call in (cheapest_talk, lambda *args: shows_talk(*args, None)):
            for value in ODD_VALUES + (shelf, [shelf, None]):
                self.raises(("BadBook", "rooms"), call, value, value, value)
            self.raises(("Unlike", "stock"), call, [shelf] * 70 + [named], 0, 0)
            self.raises(("Twice", "first"), call, [named], 0, 0)
            self.raises(("Twice", "it"), call, [named.cut(words=["other", "it"])], 0, 0)
            for value in ODD_VALUES + (list_of.rows, of_word("red")):
                self.raises(("BadPriced", "priced"), call, [shelf], value, value)
            for value in ODD_VALUES + (["c"], [["c"]], [[]], [[[]]], [[["c"]], [[]]], [[["c"], ["c"]]], [[["c"]], None], {0: [["c"]]}, [{0: ["c"]}],
                                       [["abc"]], ["abc"]):
                if value != [[["x"]]]:
                    self.raises(("BadTalk", "goals"), call, [shelf], list_of, value)
            self.raises(("BadTalk", "goals"), call, [shelf, shelf], list_of, goals)
            lacking = list_of.joined(Priced.alike(1, of_word("that"), of_word("this")))
            for goal, wanted in (([[["c", "c", "d"]]], ("Twice", "c")), ([[["c", "d", "c"]]], ("NoThing", "d")), ([[["c"]], [["a", 0]]], ("NoThing", 0)),
                                 ([[["a", ["a"]]]], ("NoThing", ["a"])), ([[["x"]]], ("NoThing", "x")), ([[["b", True]], [[]]], ("BadTalk", "goals"))):
                self.raises(wanted, call, [shelf], lacking, goal)
            self.raises(("NoThing", "a"), call, [shelf, shelf.kept(["b", "c"])], lacking, [[["a"], ["b"]], [["a"], ["c", "a"]], [["x"], ["b"]]])
            self.raises(("NoWord", "that"), call, [shelf], lacking, goals)
            for saying, wanted in ((some_of("right", of_word("that")), ("NoWord", "that")), (some_of("right", of_word("it")), ("NoLink", "right")),
                                   (above_of("s", "that"), ("NoScale", "s")), (top_of("it", of_word("it")), ("NoScale", "it"))):
                self.raises(wanted, call, [shelf], list_of.joined(Priced.alike(1, saying, of_word("this"))), goals)
            self.raises(("NoWord", "that"), call, rings(14, 11, 13), Priced([(next_one(), 1), (of_word("that"), 1)]), [[["t0"]] * 3])
        self.raises(("TooMany", "rooms", 64), cheapest_talk, [named] * 65, 0, 0)
        self.assertIs(shows_talk([named] * 65, 0, 0, 0), False)

    def test_soon_enough(self):
        start = time.time()
        rng = drawing(305)
        things = [f"t{k}" for k in range(16)]
        room = Room(things, {"w": things[:1], "v": things[3:9]}, {f"l{k}": [(t, u) for t in things for u in things if rng.random() < 0.15] for k in range(3)},
                    {"s": {t: k for k, t in enumerate(things)}})
        for _ in range(5):
            priced = Priced([(with_talk_words(rng, drawn_saying(rng, room, 40)), rng.randint(0, 9)) for _ in range(12)])
            goals = [drawn_pick(rng, [room]), [["t1"]]]
            if self.told(cheapest_talk, [room], priced, goals) is None:
                self.assertTrue(shows_talk([room], priced, goals, cheapest_talk([room], priced, goals)))
        forty = [f"t{k}" for k in range(40)]
        flat = [Room(forty, {f"w{k}": rng.sample(forty, 25) for k in range(12)}, {}) for _ in range(64)]
        priced = Priced([(of_word(f"w{k}"), rng.randint(1, 9)) for k in range(12)])
        for word in ("w3", "w7"):
            goals = [[room.things_of(word) for room in flat]]
            self.assertTrue(shows_talk(flat, priced, goals, cheapest_talk(flat, priced, goals)))
        goals = [[["t0"]] * 64]
        self.assertTrue(shows_talk(flat, priced, goals, cheapest_talk(flat, priced, goals)))
        self.assertLess(time.time() - start, 60)


class CheckTalks(Case):
    def setUp(self):
        self.shelf, self.list_of = the_shelf(), the_list()
        self.begin, self.now = Standing(), Standing().behind([["b"]])

    def shows(self, value):
        return shows_talk([self.shelf], self.list_of, [[["c"]]], value)

    def test_examples(self):
        begin, now = self.begin, self.now
        again = now.behind([["b"]])
        self.assertEqual([self.shows(Talk([0, 1], 4, [(0, begin, 4), (0, now, 1)])), self.shows(Talk([0, 1], 4, [(0, begin, 4)]))], [True, False])
        red = Priced([(of_word("red"), 3)])
        self.assertEqual([shows_talk([self.shelf], red, [[["c"]]], Speechless([(0, begin), (0, now), (0, again)])),
                          shows_talk([self.shelf], red, [[["c"]]], Speechless([(0, begin), (0, now)]))], [True, False])

    def bent(self, rng, paper, rooms, goals):
        """A paper with a phrase, the price, a row or a state left out, put in, told twice or otherwise."""
        def bent_rows(rows, many):
            rows = [list(row) for row in rows]
            turn = rng.randrange(7)
            at = rng.randrange(len(rows))
            if turn == 0:
                rows.pop(at)
            elif turn == 1:
                rows.append(list(rows[at]))
            elif turn == 2:
                rows[at][0] = rng.choice([rows[at][0] + 1, -1, 0, True, None])
            elif turn == 3:
                rows[at][1] = drawn_standing(rng, rooms)
            elif turn == 4:
                rows.append([rng.randrange(len(goals)), drawn_standing(rng, rooms), *[rng.randint(0, 2)] * (many - 2)])
            elif turn == 5 and many == 3:
                rows[at][2] = rng.choice([rows[at][2] + 1, max(0, rows[at][2] - 1), 0, False])
            return rng.sample(rows, len(rows))

        if not paper:
            return Speechless(bent_rows(paper.standings, 2))
        phrases, price, rows = list(paper.phrases), paper.price, paper.prices
        turn = rng.randrange(6)
        if turn == 0:
            phrases[rng.randrange(len(phrases))] = rng.randrange(5)
        elif turn == 1:
            phrases.insert(rng.randint(0, len(phrases)), rng.randrange(4))
        elif turn == 2:
            phrases.pop()
        elif turn == 3:
            price += rng.choice((-1, 1))
        else:
            rows = bent_rows(rows, 3)
        return Talk(phrases, price, rows)

    def test_bent_papers(self):
        rng = drawing(311)
        told = {True: 0, False: 0}
        for _ in range(120):
            rooms, priced, goals = drawn_talk(rng)
            paper = cheapest_talk(rooms, priced, goals)
            for _ in range(12):
                value = self.bent(rng, paper, rooms, goals)
                if isinstance(value, Talk):
                    wanted = plain_talk.talk_price(rooms, priced, goals, value.phrases) == value.price and plain_talk.are_bounds(
                        rooms, priced, goals, value.prices, value.price)
                else:
                    wanted = plain_talk.are_shut(rooms, priced, goals, value.standings)
                self.assertIs(shows_talk(rooms, priced, goals, value), wanted)
                told[wanted] += 1
        self.assertGreater(min(told.values()), 100)

    def test_other_right_papers(self):
        """Bounds of any states, of those alone that count, or none where nothing is paid; more shut states."""
        begin, now = self.begin, self.now
        odd = Standing([["a", "c"]], None, [["b"]])
        self.assertIs(self.shows(Talk([0, 1], 4, [[0, begin, 4], [0, now, 1], [0, odd, 0]])), True)
        self.assertIs(self.shows(Talk((0, 1), 4, ((0, odd, 1), (0, now, 1), (0, begin, 4)))), True)
        self.assertIs(self.shows(Talk((0, 1), 4, ((0, odd, 7), (0, now, 1), (0, begin, 4)))), False)
        self.assertIs(self.shows(Talk([0, 0, 1], 7, [[0, begin, 4], [0, now, 1]])), False)
        free = Priced([(of_word("red"), 0)])
        self.assertIs(shows_talk([self.shelf], free, [[["b"]]], Talk([0], 0, [])), True)
        self.assertIs(shows_talk([self.shelf], free, [[["b"]]], Talk([0, 0], 0, [])), False)
        self.assertIs(shows_talk([self.shelf], free, [[["b"]], [["b"]]], Talk([0, 0], 0, [])), True)
        silent = Priced([(no_thing(), 1), (of_word("it"), 1)])
        self.assertIs(shows_talk([self.shelf], silent, [[["b"]]], Speechless([(0, begin)])), True)
        more = [(0, begin), (0, Standing([["a"]])), (0, Standing([["a"]], [["a"]], [["a"]]))]
        self.assertIs(shows_talk([self.shelf], silent, [[["b"]]], Speechless(more)), True)
        self.assertIs(shows_talk([self.shelf], silent, [[["b"]]], Speechless(more[:2])), False)
        self.assertIs(shows_talk([self.shelf], silent, [[["b"]]], Speechless(more[1:])), False)
        self.assertIs(shows_talk([self.shelf], silent, [[["b"]]], Speechless([])), False)
        self.assertIs(shows_talk([self.shelf], silent, [[["b"]]], Speechless([*more, (1, now)])), False)

    def test_standings_of_other_rooms(self):
        for picked in ([["d"]], [["b"], ["b"]], [["b", "a"]]):
            for odd in (Standing(picked), Standing(None, picked), Standing(None, None, picked)):
                self.assertIs(self.shows(Talk([0, 1], 4, [(0, self.begin, 4), (0, self.now, 1), (0, odd, 0)])), False)

    def test_any_values(self):
        begin, now = self.begin, self.now
        rows = [(0, begin, 4), (0, now, 1)]
        for value in ODD_VALUES + (Paper("talk", (0, 1), 4, rows), begin, (0, 1, 1), [0, True], [0, 1.0], 5, "4", 4.0, (0, begin), (0, begin, 4)):
            self.assertIs(self.shows(value), False)
            self.assertIs(self.shows(Speechless(value)), False)
            self.assertIs(self.shows(Speechless([(0, begin), value])), False)
            self.assertIs(self.shows(Talk(value, 4, rows)), False)
            self.assertIs(self.shows(Talk([0, value], 4, rows)), False)
            if value != 4.0:
                self.assertIs(self.shows(Talk([0, 1], value, rows)), False)
            self.assertIs(self.shows(Talk([0, 1], 4, value)), False)
            self.assertIs(self.shows(Talk([0, 1], 4, [*rows, value])), False)
            self.assertIs(self.shows(Talk([0, 1], 4, [rows[0], (value, now, 1)])), False)
            if value is not begin:
                self.assertIs(self.shows(Talk([0, 1], 4, [rows[0], rows[1], (0, value, 1)])), False)
            self.assertIs(self.shows(Talk([0, 1], 4, [rows[0], (0, now, value)])), False)
        self.assertIs(self.shows(Talk([0, 1], 4.0, rows)), False)
        self.assertIs(self.shows(Talk([0, True], 4, rows)), False)
        self.assertIs(self.shows(Talk([False, 1], 4, rows)), False)
        self.assertIs(self.shows(Talk([0, 1], 4, [(False, begin, 4), (0, now, 1)])), False)
        self.assertIs(self.shows(Talk([0, 1], 4, [(0, begin, 4), (0, now, True)])), False)
        one = Priced([(of_word("red"), 1)])
        self.assertIs(shows_talk([self.shelf], one, [[["b"]]], Talk([0], 1, [(0, begin, 1)])), True)
        self.assertIs(shows_talk([self.shelf], one, [[["b"]]], Talk([0], True, [(0, begin, 1)])), False)
