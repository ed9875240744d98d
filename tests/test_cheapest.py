import time

from sayable.books import Book
from sayable.check_priced import shows_cheapest
from sayable.cheapest import Cheapest, NoSet, cheapest_words
from sayable.papers import Denial, Paper
from sayable.priced import Priced, left_by, usable_in
from sayable.rooms import Room
from sayable.sayings import any_thing, of_word
from tests import plain_compare
from tests.helpers import Case, ODD_VALUES, drawing
from tests.test_priced import drawn_asked, the_asked, the_four


def nodes_of(tree):
    return 1 + sum(nodes_of(below) for _, below in tree[1]) if tree else 1


class CheapestWords(Case):
    def test_papers(self):
        said, none = Cheapest([0], tree=[[0, "a"], [[1, None]]], price=3), NoSet(places=[[0, "a"]])
        self.assertEqual((said.word, said.parts, bool(said)), ("cheapest", ((0,), 3, ((0, "a"), ((1, None),))), True))
        self.assertEqual((said.picked, said.price, said.tree), said.parts)
        self.assertEqual((none.word, none.parts, none.places, bool(none)), ("noset", (((0, "a"),),), ((0, "a"),), False))
        self.assertFalse(said == Paper("cheapest", *said.parts) or none == Denial("noset", *none.parts))
        self.assertTrue(none == NoSet(((0, "a"),)) and said == Cheapest(*said.parts))
        self.assertIsInstance(none, Denial)
        self.assertNotIsInstance(said, Denial)

    def test_examples(self):
        four, asked = the_four(), the_asked()
        wanted = Book([four], [["a"]])
        found = cheapest_words(wanted, asked)
        self.assertEqual([bool(found), found.picked, found.price, cheapest_words(Book([four], [["a", "b", "c", "d"]]), asked).parts],
                         [True, (0, 1), 4, ((), 0, None)])
        self.assertEqual([cheapest_words(Book([four], [["b"]]), asked).parts, cheapest_words(wanted, asked.with_price(2, 3)).picked,
                          cheapest_words(Book([four], [[]]), asked).places], [(((0, "a"),),), (2,), ((0, "a"),)])

    def check_paper(self, book, priced):
        paper, least = cheapest_words(book, priced), plain_compare.least_price(book, priced)
        self.assertIs(shows_cheapest(book, priced, paper), True)
        if least is None:
            usable = plain_compare.usable(book, priced)
            self.assertEqual(paper.parts, (tuple(place for place in book.other_places() if all(
                plain_compare.fits(book, priced, k, place) for k in usable)),))
            self.assertIsInstance(paper, NoSet)
            return None
        self.assertIsInstance(paper, Cheapest)
        self.assertEqual(paper.picked, tuple(sorted(set(paper.picked))))
        self.assertEqual((paper.price, priced.price_of(paper.picked)), (least, least))
        self.assertEqual(plain_compare.left_by(book, priced, paper.picked), book.meant)
        self.assertTrue(plain_compare.is_tree(book, priced, least, paper.tree))
        return least

    def test_against_all_sets(self):
        rng = drawing(241)
        told = {}
        for _ in range(150):
            book, priced = drawn_asked(rng, 5)
            least = self.check_paper(book, priced)
            told[least] = told.get(least, 0) + 1
            self.assertEqual(cheapest_words(Book(list(book.rooms), [list(reversed(crowd)) for crowd in book.meant]), Priced(list(priced.rows))),
                             cheapest_words(book, priced))
        self.assertGreater(told[None], 20)
        self.assertGreater(sum(told[least] for least in told if least), 40)

    def test_prices(self):
        """Raised prices, left out sayings and more rooms never make it cheaper."""
        rng = drawing(242)
        for _ in range(60):
            book, priced = drawn_asked(rng, 5)
            least = self.check_paper(book, priced)
            raised = priced.with_price(rng.randrange(len(priced)), 1000000)
            fewer = Priced(rng.sample(priced.rows, max(1, len(priced) - 1)))
            for more in (raised, fewer):
                now = self.check_paper(book, more)
                self.assertTrue(least is not None or now is None)
                self.assertTrue(now is None or now >= least)
            one_room = self.check_paper(Book(book.rooms[:1], book.meant[:1]), priced)
            self.assertTrue(least is None or one_room <= least)

    def test_what_is_meant_in_both(self):
        rng = drawing(243)
        for _ in range(40):
            book, priced = drawn_asked(rng, 5)
            some, more = [[k for k in range(len(priced)) if rng.random() < 0.5] for _ in range(2)]
            one, other = left_by(book, priced, some), left_by(book, priced, more)
            both = [[t for t in crowd if t in crowd_too] for crowd, crowd_too in zip(one, other)]
            self.assertEqual(left_by(book, priced, sorted({*some, *more})), tuple(map(tuple, both)))
            self.assertIsNotNone(self.check_paper(book.changed(meant=both), priced))

    def test_all_and_nothing_meant(self):
        rng = drawing(244)
        for _ in range(30):
            book, priced = drawn_asked(rng, 4)
            whole = book.changed(meant=[list(room) for room in book.rooms])
            self.assertEqual(cheapest_words(whole, priced).parts, ((), 0, None))
            none = book.changed(meant=[[] for _ in book.rooms])
            self.assertEqual(usable_in(none, priced), tuple(range(len(priced))))
            self.check_paper(none, priced)
        room = Room(["a"], {"w": []}, {})
        self.assertEqual(cheapest_words(Book([room], [[]]), Priced.alike(0, of_word("w"))).parts, ((0,), 0, None))
        self.assertEqual(cheapest_words(Book([room], [[]]), Priced.alike(1000000, any_thing(), of_word("w"))).parts[:2], ((1,), 1000000))

    def test_twelve_and_more(self):
        room = Room(["a", "b"], {"w": ["a"]}, {})
        book = Book([room], [["a"]])
        twelve = Priced([(of_word("w"), 12 - k) for k in range(12)])
        self.assertEqual(cheapest_words(book, twelve).parts[:2], ((11,), 1))
        thirteen = twelve.joined(Priced.alike(5, of_word("w")))
        self.raises(("TooMany", "sayings", 12), cheapest_words, book, thirteen)
        self.raises(("TooMany", "sayings", 12), cheapest_words, Book([room], [["b"]]), thirteen)
        self.raises(("TooMany", "sayings", 12), cheapest_words, Book([room], [["a", "b"]]), thirteen)
        self.raises(("NoWord", "v"), cheapest_words, book, thirteen.joined(Priced.alike(5, of_word("v"))))
        self.assertIs(shows_cheapest(book, twelve, Cheapest([11], 1, [[0, "b"], [[k, None] for k in range(12)]])), True)
        self.assertIs(shows_cheapest(book, thirteen, Cheapest([11], 1, [[0, "b"], [[k, None] for k in range(13)]])), False)
        self.assertIs(shows_cheapest(Book([room], [["b"]]), thirteen, NoSet([[0, "a"]])), False)
        self.raises(("NoWord", "v"), shows_cheapest, book, thirteen.joined(Priced.alike(5, of_word("v"))), None)

    def test_soon_enough(self):
        start = time.time()
        rng = drawing(245)
        for size in (2, 3, 6):
            # Each thing but the meant one is refused by a drawn set of sayings of this size.
            things = [f"t{k}" for k in range(40)]
            rooms = []
            for index in range(24):
                refused = {t: rng.sample(range(12), size) for t in things[1:]}
                rooms.append(Room(things, {f"w{k}": [t for t in things if k not in refused.get(t, ())] for k in range(12)}, {}))
            book = Book(rooms, [["t0"]] * 24)
            for least in (1, 900000):
                priced = Priced([(of_word(f"w{k}"), rng.randint(least, 1000000)) for k in range(12)])
                paper = cheapest_words(book, priced)
                self.assertTrue(paper and shows_cheapest(book, priced, paper))
                self.assertLessEqual(nodes_of(paper.tree), 4096)
        self.assertLess(time.time() - start, 30)


class CheckCheapest(Case):
    def by_hand(self):
        return Cheapest([0, 1], 4, [(0, "b"), [(1, [(0, "c"), [(0, None), (2, None)]]), (2, None)]])

    def test_examples(self):
        wanted, asked = Book([the_four()], [["a"]]), the_asked()
        self.assertEqual([shows_cheapest(wanted, asked, self.by_hand()), shows_cheapest(wanted, asked.with_price(2, 3), self.by_hand()),
                          shows_cheapest(wanted, asked, Cheapest([2], 5, None))], [True, False, False])

    def bent_tree(self, rng, tree, book, many):
        """A tree with a leaf, a node or a branch changed, put in or left out."""
        turn = rng.randrange(8)
        place, index = rng.choice(book.places()), rng.randrange(many)
        if tree is None:
            return [(place, ()), None, (place, ((index, None),)), 0, (), None, (place, None), None][turn]
        branches = list(tree[1])
        if turn == 0:
            return None
        if turn == 1:
            return (place, tree[1])
        if turn == 2 and branches:
            branches.pop(rng.randrange(len(branches)))
        elif turn == 3:
            branches.insert(rng.randint(0, len(branches)), (index, None))
        elif turn == 4:
            branches = rng.sample(branches, len(branches))
        elif branches:
            at = rng.randrange(len(branches))
            branches[at] = (branches[at][0], self.bent_tree(rng, branches[at][1], book, many))
        return (tree[0], tuple(branches))

    def is_well_made(self, tree):
        """Whether the value has the form of a tree at all."""
        if tree is None:
            return True
        return isinstance(tree, tuple) and len(tree) == 2 and isinstance(tree[1], tuple) and all(
            len(branch) == 2 and self.is_well_made(branch[1]) for branch in tree[1])

    def test_bent_trees(self):
        rng = drawing(251)
        told = {True: 0, False: 0}
        for _ in range(150):
            book, priced = drawn_asked(rng, 4)
            paper = cheapest_words(book, priced)
            if not paper or not book.other_places():
                continue
            for _ in range(8):
                tree = self.bent_tree(rng, paper.tree, book, len(priced))
                wanted = self.is_well_made(tree) and plain_compare.is_tree(book, priced, paper.price, tree)
                self.assertIs(shows_cheapest(book, priced, Cheapest(paper.picked, paper.price, tree)), wanted)
                told[wanted] += 1
        self.assertGreater(min(told.values()), 60)

    def test_other_right_trees(self):
        """Any place, at each node; nodes where a leaf could stand, too."""
        rng = drawing(252)

        def drawn_tree(book, priced, price, ahead, out):
            if sum(priced.prices[k] for k in ahead) >= price and rng.random() < 0.8:
                return None
            fitted = [p for p in book.other_places() if all(plain_compare.fits(book, priced, k, p) for k in ahead)]
            if not fitted:
                return None
            place = rng.choice(fitted)
            branches, left_out = [], list(out)
            for k in plain_compare.usable(book, priced):
                if not plain_compare.fits(book, priced, k, place) and k not in out:
                    branches.append([k, drawn_tree(book, priced, price, (*ahead, k), tuple(left_out))])
                    left_out.append(k)
            return [list(place), branches]

        for _ in range(100):
            book, priced = drawn_asked(rng, 4)
            paper = cheapest_words(book, priced)
            if paper:
                self.assertIs(shows_cheapest(book, priced, Cheapest(list(paper.picked), paper.price, drawn_tree(book, priced, paper.price, (), ()))), True)

    def test_bent_papers(self):
        rng = drawing(253)
        for _ in range(100):
            book, priced = drawn_asked(rng, 4)
            paper = cheapest_words(book, priced)
            if paper:
                for picked in plain_compare.all_sets(range(len(priced))):
                    wanted = priced.price_of(picked) == paper.price and plain_compare.left_by(book, priced, picked) == book.meant
                    self.assertIs(shows_cheapest(book, priced, Cheapest(picked, paper.price, paper.tree)), wanted)
                for price in (paper.price + 1, paper.price - 1, bool(paper.price), None, str(paper.price), float(paper.price), -1):
                    self.assertIs(shows_cheapest(book, priced, Cheapest(paper.picked, price, paper.tree)), False)
                if len(paper.picked) > 1:
                    self.assertIs(shows_cheapest(book, priced, Cheapest(paper.picked[::-1], paper.price, paper.tree)), False)
                for picked in ((*paper.picked, *paper.picked[:1]) if paper.picked else None, [*paper.picked, len(priced)], [-1, *paper.picked], None, 0):
                    self.assertIs(shows_cheapest(book, priced, Cheapest(picked, paper.price, paper.tree)), False)
                self.assertIs(shows_cheapest(book, priced, NoSet(())), False)
                self.assertIs(shows_cheapest(book, priced, NoSet(book.other_places())), False)
            else:
                places = paper.places
                wrong = [places[:-1], (), (*places, places[0]), tuple(p for p in book.places() if p in places or p in book.meant_places()[:1]), None]
                if len(places) > 1:
                    wrong.append(places[::-1])
                wrong.extend([[(True, p[1]) if p[0] == 1 else (False, p[1]) for p in places]])
                for value in wrong:
                    if value != places:
                        self.assertIs(shows_cheapest(book, priced, NoSet(value)), False)
                self.assertIs(shows_cheapest(book, priced, NoSet([list(p) for p in places])), True)
                self.assertIs(shows_cheapest(book, priced, Cheapest((), 0, None)), False)
                self.assertIs(shows_cheapest(book, priced, Denial("noset", places)), False)

    def test_truths_are_no_integers(self):
        book, priced = Book([Room(["a", "b"], {"v": ["a", "b"], "w": ["a"]}, {})], [["a"]]), Priced([(of_word("v"), 0), (of_word("w"), 1)])
        tree = ((0, "b"), ((1, None),))
        self.assertIs(shows_cheapest(book, priced, Cheapest([1], 1, tree)), True)
        for value in (Cheapest([True], 1, tree), Cheapest([1], True, tree), Cheapest([1], 1, ((False, "b"), ((1, None),))),
                      Cheapest([1], 1, ((0, "b"), ((True, None),))), Cheapest([1], 1, ((0, "b"), ((1, False),))), Cheapest([1.0], 1, tree)):
            self.assertIs(shows_cheapest(book, priced, value), False)

    def test_any_values(self):
        wanted, asked, paper = Book([the_four()], [["a"]]), the_asked(), self.by_hand()
        for value in ODD_VALUES + ("Cheapest", (0, 2), Paper("cheapest", *paper.parts)):
            self.assertIs(shows_cheapest(wanted, asked, value), False)
            self.assertIs(shows_cheapest(wanted, asked, NoSet(value)), False)
            self.assertIs(shows_cheapest(wanted, asked, Cheapest(value, 4, paper.tree)), False)
            self.assertIs(shows_cheapest(wanted, asked, Cheapest([0, 1], value, paper.tree)), False)
            self.assertIs(shows_cheapest(wanted, asked, Cheapest([0, 1], 4, value)), False)
            self.assertIs(shows_cheapest(wanted, asked, Cheapest([0, 1], 4, [value, paper.tree[1]])), False)
            if value not in ([], ()):
                self.assertIs(shows_cheapest(wanted, asked, Cheapest([0, 1], 4, [(0, "b"), value])), False)
            self.assertIs(shows_cheapest(wanted, asked, Cheapest([0, 1], 4, [(0, "b"), [paper.tree[1][0], value]])), False)
            self.assertIs(shows_cheapest(wanted, asked, Cheapest([0, 1], 4, [(0, "b"), [paper.tree[1][0], (value, None)]])), False)

    def test_errors(self):
        wanted, asked = Book([the_four()], [["a"]]), the_asked()
        for value in ODD_VALUES + (asked,):
            self.raises(("BadBook", "book"), shows_cheapest, value, value, value)
        for value in ODD_VALUES + (wanted, asked.rows):
            self.raises(("BadPriced", "priced"), shows_cheapest, wanted, value, value)
        self.raises(("NoWord", "v"), shows_cheapest, wanted, Priced.alike(1, of_word("v")), None)
