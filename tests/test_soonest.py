import itertools
import time

from sayable.books import Book
from sayable.check_priced import shows_soonest
from sayable.papers import Denial, Paper
from sayable.priced import Priced, left_by
from sayable.rooms import Room
from sayable.sayings import any_thing, of_word
from sayable.soonest import Order, soonest_order, waits_in
from tests import plain_compare
from tests.helpers import Case, ODD_VALUES, drawing
from tests.test_priced import drawn_asked, the_asked, the_four


def both_rooms():
    two = Room(["a", "b"], {"red": ["a"], "big": ["a", "b"], "round": ["a"]}, {})
    return Book([the_four(), two], [["a"], ["a"]])


def drawn_picked(rng, most=4):
    """A book, a priced list, and picked indexes that say the book together, in a drawn order."""
    while True:
        book, priced = drawn_asked(rng, 4, 4)
        picked = rng.sample(range(len(priced)), rng.randint(0, min(most, len(priced))))
        left = left_by(book, priced, picked)
        if left != tuple(room.things for room in book.rooms) or rng.random() < 0.1:
            return book.changed(meant=left), priced, picked


class SoonestOrder(Case):
    def test_papers(self):
        paper = Order([1, 0], prices=[3, 1, 1, 0], waits=3)
        self.assertEqual((paper.word, paper.parts, bool(paper)), ("order", ((1, 0), 3, (3, 1, 1, 0)), True))
        self.assertEqual((paper.order, paper.waits, paper.prices), paper.parts)
        self.assertTrue(paper == Order((1, 0), 3, (3, 1, 1, 0)))
        self.assertFalse(paper == Paper("order", *paper.parts))
        self.assertNotIsInstance(paper, Denial)

    def test_examples(self):
        both, asked = both_rooms(), the_asked()
        self.assertEqual([waits_in(both, asked, [0, 1]), waits_in(both, asked, [1, 0]), soonest_order(both, asked, [1, 0]).parts[:2]],
                         [(2, 1), (2, 2), ((0, 1), 3)])
        self.raises(("Unlike", "picked"), soonest_order, both, asked, [0])

    def test_waits_against_all_orders(self):
        rng = drawing(261)
        unlike = 0
        for _ in range(120):
            book, priced, picked = drawn_picked(rng)
            waits = {order: waits_in(book, priced, order) for order in itertools.permutations(picked)}
            for order in waits:
                self.assertEqual(waits[order], plain_compare.waits(book, priced, order))
            least = min(sum(told) for told in waits.values())
            unlike += least < max(sum(told) for told in waits.values())
            paper = soonest_order(book, priced, picked)
            self.assertIsInstance(paper, Order)
            self.assertEqual((paper.waits, sum(waits[paper.order]), paper.prices[0]), (least, least, least))
            self.assertTrue(plain_compare.are_bounds(book, priced, picked, paper.prices))
            self.assertIs(shows_soonest(book, priced, picked, paper), True)
            self.assertEqual(soonest_order(book, Priced([list(row) for row in priced]), tuple(picked)), paper)
            self.assertEqual(soonest_order(book, priced, sorted(picked)).waits, least)
        self.assertGreater(unlike, 30)

    def test_rooms_alone_and_twice(self):
        rng = drawing(262)
        for _ in range(60):
            book, priced, picked = drawn_picked(rng)
            least = soonest_order(book, priced, picked).waits
            alone = [soonest_order(Book([room], [crowd]), priced, picked).waits for room, crowd in zip(book.rooms, book.meant)]
            self.assertLessEqual(sum(alone), least)
            twice = Book([*book.rooms, *book.rooms], [*book.meant, *book.meant])
            self.assertEqual(soonest_order(twice, priced, picked).waits, 2 * least)
            turned = Book(book.rooms[::-1], book.meant[::-1])
            self.assertEqual(soonest_order(turned, priced, picked).waits, least)
            self.assertEqual(waits_in(turned, priced, picked), waits_in(book, priced, picked)[::-1])

    def test_all_meant(self):
        room = Room(["a"], {"w": ["a"]}, {})
        priced = Priced.alike(1, any_thing(), of_word("w"))
        whole = Book([room], [["a"]])
        self.assertEqual((waits_in(whole, priced, []), waits_in(whole, priced, [1, 0])), ((0,), (0,)))
        self.assertEqual(soonest_order(whole, priced, []).parts, ((), 0, (0,)))
        self.assertEqual(soonest_order(whole, priced, [1]).parts, ((1,), 0, (0, 0)))
        self.assertIs(shows_soonest(whole, priced, [1, 0], Order([0, 1], 0, [0, 0, 0, 0])), True)
        self.assertIs(shows_soonest(whole, priced, [], Order([], 0, [0])), True)
        self.assertIs(shows_soonest(whole, priced, [], Order([], 0, [])), False)

    def test_twelve_and_more(self):
        room = Room(["a", "b"], {"w": ["a"]}, {})
        book = Book([room], [["a"]])
        priced = Priced([(any_thing(), 1)] * 12 + [(of_word("w"), 1)])
        self.assertEqual(waits_in(book, priced, list(range(13))), (13,))
        self.raises(("TooMany", "sayings", 12), soonest_order, book, priced, list(range(13)))
        self.raises(("Unlike", "picked"), soonest_order, Book([room], [[]]), priced, list(range(13)))
        self.raises(("Unlike", "picked"), shows_soonest, Book([room], [[]]), priced, list(range(13)), None)
        paper = soonest_order(book, priced, list(range(1, 13)))
        self.assertEqual((paper.order[0], paper.waits, len(paper.prices)), (12, 1, 4096))
        self.assertIs(shows_soonest(book, priced, list(range(1, 13)), paper), True)
        self.assertIs(shows_soonest(book, priced, list(range(13)), Order([12, *range(12)], 1, [1] * 4096 + [0] * 4096)), False)

    def test_errors(self):
        both, asked = both_rooms(), the_asked()
        for value in ODD_VALUES + ([3], [-1], [0, 0], [True, 0], ["0"], "01", {0: 1, 1: 0}, [[0], 1], 2):
            if value not in ([], ()):
                lacking = Priced([(of_word("none"), 2)] * 3)
                self.raises(("BadPriced", "order"), waits_in, both, lacking, value)
                self.raises(("BadPriced", "picked"), soonest_order, both, lacking, value)
                self.raises(("BadPriced", "picked"), shows_soonest, both, lacking, value, value)
        for picked in ([], [0], [1]):
            self.raises(("Unlike", "order"), waits_in, both, asked, picked)
            self.raises(("Unlike", "picked"), soonest_order, both, asked, picked)
            self.raises(("Unlike", "picked"), shows_soonest, both, asked, picked, None)
        four = Book([the_four()], [["b"]])
        self.raises(("Unlike", "order"), waits_in, four, asked, [0, 1, 2])
        for value in ODD_VALUES:
            self.raises(("BadBook", "book"), shows_soonest, value, value, value, value)
            self.raises(("BadPriced", "priced"), shows_soonest, both, value, value, value)

    def test_soon_enough(self):
        start = time.time()
        rng = drawing(263)
        things = [f"t{k}" for k in range(40)]
        rooms = [Room(things, {f"w{k}": ["t0", *[t for t in things[1:] if rng.random() < 0.7]] for k in range(12)}, {}) for _ in range(64)]
        priced = Priced.alike(1, *[of_word(f"w{k}") for k in range(12)])
        book = Book(rooms, left_by(Book(rooms, [[]] * 64), priced, list(range(12))))
        paper = soonest_order(book, priced, list(range(12)))
        self.assertIs(shows_soonest(book, priced, list(range(12)), paper), True)
        self.assertLess(time.time() - start, 15)


class CheckSoonest(Case):
    def test_examples(self):
        both, asked = both_rooms(), the_asked()
        self.assertEqual([shows_soonest(both, asked, [0, 1], Order([0, 1], 3, [3, 1, 1, 0])),
                          shows_soonest(both, asked, [0, 1], Order([1, 0], 4, [4, 1, 2, 0]))], [True, False])

    def test_bent_papers(self):
        rng = drawing(271)
        told = {True: 0, False: 0}
        for _ in range(100):
            book, priced, picked = drawn_picked(rng, 3)
            paper = soonest_order(book, priced, picked)
            for _ in range(12):
                order, waits, bounds = list(paper.order), paper.waits, list(paper.prices)
                turn = rng.randrange(7)
                if turn == 0:
                    order = rng.sample(order, len(order))
                elif turn == 1:
                    at = rng.randrange(len(bounds))
                    bounds[at] = max(0, bounds[at] + rng.choice((-1, 1)))
                elif turn == 2:
                    waits = waits + rng.choice((-1, 1))
                    bounds[0] = waits
                elif turn == 3:
                    bounds = [max(0, bound - rng.randint(0, 1)) if at else bound for at, bound in enumerate(bounds)]
                elif turn == 4:
                    bounds.append(0)
                elif turn == 5:
                    order.append(rng.randrange(len(priced)))
                elif order:
                    order.pop()
                wanted = (sorted(order) == sorted(picked) and waits == sum(plain_compare.waits(book, priced, order)) and bounds[0] == waits
                          and plain_compare.are_bounds(book, priced, picked, bounds))
                self.assertIs(shows_soonest(book, priced, picked, Order(order, waits, bounds)), wanted)
                told[wanted] += 1
        self.assertGreater(min(told.values()), 100)

    def test_any_values(self):
        both, asked = both_rooms(), the_asked()
        for value in ODD_VALUES + ((0, 1), Paper("order", (0, 1), 3, (3, 1, 1, 0)), (1, 2), [0, True], 3.0, "3"):
            if value != (0, 1):
                self.assertIs(shows_soonest(both, asked, [0, 1], Order(value, 3, [3, 1, 1, 0])), False)
            self.assertIs(shows_soonest(both, asked, [0, 1], value), False)
            self.assertIs(shows_soonest(both, asked, [0, 1], Order([0, 1], value, [3, 1, 1, 0])), False)
            self.assertIs(shows_soonest(both, asked, [0, 1], Order([0, 1], 3, value)), False)
            self.assertIs(shows_soonest(both, asked, [0, 1], Order([0, 1], 3, [3, 1, value, 0])), False)
            self.assertIs(shows_soonest(both, asked, [0, 1], Order([0, 1], 3, [3, 1, 1, value])), False)
            self.assertIs(shows_soonest(both, asked, [0, 1], Order([0, 1], value, [value, 1, 1, 0])), False)
        self.assertIs(shows_soonest(both, asked, [0, 1], Order([0, 1], 3, [3, True, 1, False])), False)
