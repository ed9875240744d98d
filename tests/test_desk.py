import time

from sayable.around import least_around
from sayable.books import Book
from sayable.cheapest import cheapest_words
from sayable.desk import Desk
from sayable.errors import BadText
from sayable.explained import explain_word
from sayable.fewnames import fewest_names
from sayable.leastwords import fewest_words
from sayable.priced import Priced
from sayable.reads import reading_of
from sayable.rooms import Room
from sayable.said import said_ways, say_book
from sayable.sayings import Saying, of_word, some_of
from sayable.tied import tie_pairs
from sayable.ties import Tie
from sayable.watched import Watched
from tests.helpers import Case, ODD_VALUES, drawing, fields_of

ROOM = "a b c ; cup a b c / red b ; left a b b c ; size a -5 b 3"
SETUP = (f"set r room {ROOM}", "set r2 room a ; cup a / red ; left ; size", "set s saying word red", "set s2 saying word red / some left on 0",
         "set t tie link left", "book b r a", "book b2 r a c , r2", "priced p 3 s , 0 s2")
# Words that are no stem, no name, no way, no number and no kind, and that no desk keeps.
ODD_WORDS = ("", "A", "a..b", "7", "-", ",", "%", "a.b.c.d.e.f.g", "x" * 13, "\u00e9", "a\n", "no.", ";", "/")


def the_desk(*lines):
    return Desk([*SETUP, *lines])


class DeskLines(Case):
    def refused(self, word, *lines, desk=None):
        """Each line is refused at this word, and nothing is changed."""
        desk = desk or the_desk()
        lines_before = desk.told_lines()
        for line in lines:
            self.raises(("BadText", 0, word), desk.tell, line)
        self.assertEqual(desk.told_lines(), lines_before)

    def test_examples(self):
        desk = Desk()
        self.assertEqual(desk.run(["set r room a b c ; cup a b c / red b ; left a b b c ;", "book k r a", "say s k plain", "read r s", "book e r c",
                                   "say t e many", "ways e"]),
                         ["set", "1", "said 1", "a", "1", "unsaid", "every not full plain.back either.back every.back many.back not.back full.back"])
        self.assertEqual(desk.run(["set c saying word red", "open r", "watch one c", "do mark red c", "house", "undo", "names plain r"]),
                         ["set", "open", "none", "one", "a b c ; cup a b c / red b c ; left a b b c ;", "one", "names 1"])
        self.assertEqual([desk.tell("do take b"), desk.back(), desk.kept_names(), desk.told_lines()[-1]], ["one", "do take b", ("c", "e", "k", "r", "s"), "undo"])
        self.raises(("BadText", 0, 2), desk.tell, "read r e")

    def test_first_words(self):
        self.refused(0, "", " ", "sets", "Set", "set\tr", " set", *ODD_WORDS, "then r", "goal", "None")
        for value in ODD_VALUES + (["undo"], b"undo", of_word("undo")):
            if not isinstance(value, str):
                self.refused(0, value)

    def test_set(self):
        desk = Desk()
        for kind, text, cls in (("room", ROOM, Room), ("room", "a ; ; ;", Room), ("saying", "word red / not 0", Saying), ("tie", "link l / turned 0", Tie)):
            self.assertEqual(desk.tell(f"set a1 {kind} {text}"), "set")
            self.assertTrue(desk.value_of("a1") == cls.read(text))
            self.assertEqual(desk.tell("show a1"), text)
        for word in ODD_WORDS + ("a.b",):
            self.refused(1, f"set {word}", f"set {word} room {ROOM}", f"set {word} {word}")
        for word in ODD_WORDS + ("book", "priced", "rooms", "Room"):
            self.refused(2, f"set x {word}", f"set x {word} {ROOM}")
        self.refused(1, "set")
        self.refused(2, "set x")
        self.refused(3, "set x room", "set x saying ", "set x tie A", "set x saying words a", "set x room ;", "set x tie thing", "set x saying same")

    def test_texts_are_counted_from_the_beginning_of_the_line(self):
        for kind, cls, texts in (("room", Room, (ROOM, "a b ; cup b a ; ;", "a ; ; ", "a b", "a ; ; ; ;", "a ; w b ; ;", "a ; ; l a ;", "a ; ; ; s a 00")),
                                 ("saying", Saying, ("word a / word b / both 1 0", "word a / word a", "word b / word a / both 1 0", "not 0", "thing /")),
                                 ("tie", Tie, ("same / link child / over 1 0", "of a / over 0 1", "any / any", "same thing"))):
            for text in texts:
                told = self.told(cls.read, text)
                if told:
                    self.refused(told[2] + 3, f"set x {kind} {text}")
                for word in ODD_WORDS:
                    told = self.told(cls.read, f"{text} {word}")
                    if told:
                        self.refused(told[2] + 3, f"set x {kind} {text} {word}")

    def test_book(self):
        desk = the_desk()
        room, other = desk.value_of("r"), desk.value_of("r2")
        for line, book, answer in (("book k r", Book([room], [[]]), "0"), ("book k r c a", Book([room], [["a", "c"]]), "2"),
                                   ("book k r a , r2 a , r", Book([room, other, room], [["a"], ["a"], []]), "2")):
            self.assertEqual(desk.tell(line), answer)
            self.assertTrue(desk.value_of("k") == book)
            self.assertEqual(desk.tell("show k"), "book")
        for word in ODD_WORDS + ("a.b",):
            self.refused(1, f"book {word}", f"book {word} r a")
        for word in ODD_WORDS + ("a.b", "s", "t", "b", "p", "none"):
            self.refused(2, f"book k {word}", f"book k {word} a")
            self.refused(4, f"book k r , {word}", f"book k r , {word} a")
        for word in ODD_WORDS:
            if word != ",":
                self.refused(3, f"book k r {word}", f"book k r {word} a")
                self.refused(5, f"book k r a , {word}")
        self.refused(1, "book")
        self.refused(2, "book k")
        self.refused(4, "book k r ,", "book k r , , r")
        for line, wanted in (("book k r a d", ("NoThing", "d")), ("book k r a b a", ("Twice", "a")), ("book k r a , r2 b.c", ("NoThing", "b.c"))):
            self.raises(wanted, desk.tell, line)
        desk.tell("set plain room a ; ; ;")
        self.raises(("Unlike", "stock"), desk.tell, "book k r a a , plain d")
        self.raises(("TooMany", "rooms", 64), desk.tell, "book k " + " , ".join(["r d"] * 65))
        self.assertEqual(desk.tell("book k " + " , ".join(["r a"] * 64)), "64")

    def test_priced(self):
        desk = the_desk()
        red, left = desk.value_of("s"), desk.value_of("s2")
        for line, rows in (("priced q 0 s", [(red, 0)]), ("priced q 1000000 s , 3 s2 , 3 s", [(red, 1000000), (left, 3), (red, 3)])):
            self.assertEqual(desk.tell(line), "set")
            self.assertTrue(desk.value_of("q") == Priced(rows))
            self.assertEqual(desk.tell("show q"), "priced")
        for word in ODD_WORDS + ("a.b",):
            self.refused(1, f"priced {word}", f"priced {word} 3 s")
        for word in ODD_WORDS + ("s", "1000001", "-1", "-0", "00", "+3", "3.0", "1000000000", "none", "\u0663"):
            if word != "7":
                self.refused(2, f"priced q {word}", f"priced q {word} s")
                self.refused(5, f"priced q 3 s , {word}", f"priced q 3 s , {word} s")
        for word in ODD_WORDS + ("r", "t", "b", "p", "none"):
            self.refused(3, f"priced q 3 {word}")
            self.refused(6, f"priced q 3 s , 4 {word}")
            if word != ",":
                self.refused(4, f"priced q 3 s {word}", f"priced q 3 s {word} 4 s")
        self.refused(1, "priced")
        self.refused(2, "priced q")
        self.refused(3, "priced q 3")
        self.refused(5, "priced q 3 s ,", "priced q 3 s , ,")
        self.raises(("TooMany", "sayings", 24), desk.tell, "priced q " + " , ".join(["1 s"] * 25))
        self.assertEqual(desk.tell("priced q " + " , ".join(["1 s"] * 24)), "set")

    def check_words(self, line, positions, many=False):
        """Each word of a line exchanged or left out, one put in; positions tells what else cannot stand there.

        Many tells that more rooms may stand at the end of the line.
        """
        words = line.split(" ")
        self.assertIsNone(self.told(the_desk("open r").tell, line))
        if not many:
            self.refused(len(words), line + " ", line + " x", line + " ,")
        for at, wrong in positions.items():
            for word in (*wrong, *ODD_WORDS):
                self.refused(at, " ".join([*words[:at], word, *words[at + 1:]]), " ".join([*words[:at], word, *words[at:]]), " ".join([*words[:at], word]))
            self.refused(at, " ".join(words[:at]))

    def test_say(self):
        desk = the_desk()
        for way, answer in (("plain", "said 1"), ("not", "said 1")):
            self.assertEqual(desk.tell(f"say x b {way}"), answer)
            self.assertTrue(desk.value_of("x") == say_book(desk.value_of("b"), way).saying)
        desk.tell("book e r c")
        many = desk.told_lines()
        self.assertEqual((desk.tell("say x e many"), desk.tell("say y e plain")), ("unsaid", "unsaid"))
        self.assertEqual(desk.told_lines(), many)
        self.assertTrue(desk.value_of("x") == say_book(desk.value_of("b"), "not").saying)
        self.raises(("NoName", "y"), desk.value_of, "y")
        self.check_words("say x b plain", {1: ("a.b",), 2: ("r", "s", "t", "p", "none"), 3: ("Plain", "back", "none")})
        desk.run([f"set large room {' '.join(f't{k}' for k in range(34))} ; ; ;", "book large large t0 , large , large"])
        self.raises(("TooMany", "places", 100), desk.tell, "say x large not")

    def test_explain(self):
        desk = the_desk("set h room a b c ; first a / last c / red b ; left a b b c ;")
        self.assertEqual([desk.tell("explain x first plain h"), desk.tell("explain y last plain h"), desk.tell("explain y last every h h")],
                         ["said 1", "unsaid", "said 1"])
        room = desk.value_of("h")
        self.assertTrue(desk.value_of("x") == explain_word([room], "first", "plain").saying)
        self.assertTrue(desk.value_of("y") == explain_word([room, room], "last", "every").saying)
        self.assertEqual(desk.told_lines()[-2:], ("explain x first plain h", "explain y last every h h"))
        self.check_words("explain x red not r r2", {1: ("a.b",), 2: (), 3: ("Plain", "r"), 4: ("s", "t", "b", "p", "none")}, True)
        for word in ODD_WORDS + ("s", "t", "b", "p", "none"):
            self.refused(5, f"explain x red not r {word}", f"explain x a.b not r {word}")
        self.raises(("NoWord", "a.b"), desk.tell, "explain x a.b not r")
        self.raises(("NoWord", "first"), desk.tell, "explain x first not r r2")
        self.raises(("Unlike", "stock"), desk.tell, "explain x gone not r h")

    def test_around(self):
        desk = the_desk()
        self.assertEqual(desk.tell("around x b2 plain"), str(len(least_around(desk.value_of("b2"), "plain").meant_places())))
        self.assertTrue(desk.value_of("x") == least_around(desk.value_of("b2"), "plain"))
        desk.tell("around b2 b2 many")
        self.assertEqual(desk.told_lines()[-2:], ("around x b2 plain", "around b2 b2 many"))
        self.check_words("around x b plain", {1: ("a.b",), 2: ("r", "s", "t", "p", "none"), 3: ("Plain", "none")})

    def test_houses(self):
        desk = the_desk()
        for line in ("watch a.b s", "do mark red c", "undo", "again", "house"):
            self.raises(("Nothing",), desk.tell, line)
        self.assertIsNone(desk.house_now())
        self.assertEqual(desk.run(["open r", "watch a.b s", "watch x s2", "watch x s", "do mark red c", "do number size c -7", "do number size c none",
                                   "do tie left c c", "do put d.e", "do take b", "undo", "undo", "again", "house"]),
                         ["open", "none", "none", "x", "a.b x", "none", "none", "none", "none", "a.b x", "a.b x", "none", "none",
                          "a b c d.e ; cup a b c / red b c ; left a b b c c c ; size a -5 b 3"])
        room = desk.value_of("r")
        house = Watched(room)
        house.watch("a.b", of_word("red"))
        house.watch("x", of_word("red"))
        for deed in (("mark", "red", "c"), ("number", "size", "c", -7), ("number", "size", "c", None), ("tie", "left", "c", "c"), ("put", "d.e"), ("take", "b")):
            house.do(deed)
        house.undo()
        self.assertTrue(desk.house_now() == house)
        told = desk.house_now()
        told.again()
        self.assertTrue(desk.house_now() == house)
        self.assertEqual(desk.run(["open r2", "house"]), ["open", "a ; cup a / red ; left ; size"])
        self.assertEqual(desk.house_now().sayings(), ())
        self.raises(("Nothing",), desk.tell, "undo")
        self.raises(("Nothing",), desk.tell, "again")
        self.raises(("BadDeed", "mark"), desk.tell, "do mark cup a")
        self.raises(("NoThing", "zz"), desk.tell, "do mark cup zz")
        self.raises(("NoLink", "right"), desk.tell, "do tie right zz zz")
        self.raises(("BadDeed", "put"), desk.tell, "do put a")
        desk.run([f"watch n{k} s" for k in range(24)])
        self.raises(("TooMany", "watched", 24), desk.tell, "watch n24 s")
        desk.tell("set gone saying word gone")
        self.raises(("NoWord", "gone"), desk.tell, "watch n3 gone")

    def test_house_lines_word_by_word(self):
        self.check_words("open r", {1: ("s", "t", "b", "p", "none")})
        self.check_words("watch x.y s", {1: (), 2: ("r", "t", "b", "p", "none")})
        for line in ("do put d", "do take a", "do mark red a", "do unmark red b", "do tie left a a", "do untie left a b"):
            self.check_words(line, {at: ("puts", "Mark") if at == 1 else () for at in range(1, len(line.split(" ")))})
        for number in ("none", "-999999999", "999999999", "0"):
            wrong = ("None", "-0", "00", "+1", "1.0", "1000000000", "--1", "a", "\u0661")
            line = f"do number size a {number}"
            words = line.split(" ")
            self.assertIsNone(self.told(the_desk("open r").tell, line))
            self.refused(5, line + " x", line + " ")
            for word in (*wrong, *ODD_WORDS):
                if word != "7":
                    self.refused(4, " ".join([*words[:4], word]))
        self.refused(4, "do number size a")
        for at in (2, 3):
            for word in ODD_WORDS:
                self.refused(at, " ".join(["do", "number", "size", "a", "3"][:at] + [word] + ["do", "number", "size", "a", "3"][at + 1:]))
        for line in ("undo", "again", "house"):
            self.refused(1, line + " ", line + " x", line + " r")
            self.raises(("Nothing",), the_desk().tell, line)
        # What cannot stand comes ahead of the house that is not open.
        self.refused(2, "watch x none", "do put A")

    def test_asks(self):
        desk = the_desk()
        room, other = desk.value_of("r"), desk.value_of("r2")
        lines = desk.told_lines()
        for line, answer in (("show r", str(room)), ("show s2", "word red / some left on 0"), ("show t", "link left"), ("show b2", "book"), ("show p", "priced"),
                             ("read r s2", "a"), ("read r2 s", "none"), ("pairs r t", str(len(tie_pairs(room, desk.value_of("t"))))), ("pairs r2 t", "0"),
                             ("ways b", " ".join(said_ways(desk.value_of("b")))), ("stock not r", " ".join(["stock", *fewest_words([room], "not").words])),
                             ("stock plain r r2", " ".join(["stock", *fewest_words([room, other], "plain").words])),
                             ("names either r", f"names {len(fewest_names(room, 'either').things)}"),
                             ("cheapest b p", f"price {cheapest_words(desk.value_of('b'), desk.value_of('p')).price}")):
            self.assertEqual(desk.tell(line), answer)
        self.assertEqual(reading_of(room, desk.value_of("s2")), ("a",))
        self.assertEqual(desk.tell("cheapest b p"), "price 0")
        more = the_desk("set twin room a b ; w a b ; ;", "book k twin a", "set w saying word w", "priced q 5 w", "set bare room a ; ; ;")
        self.assertEqual(more.run(["ways k", "cheapest k q", "stock not bare", "names not twin", "names either twin"]), ["none", "none", "stock", "names 1", "names 2"])
        self.assertEqual(desk.told_lines(), lines)

    def test_asks_word_by_word(self):
        self.check_words("show r", {1: ("none", "a.b")})
        self.check_words("read r s", {1: ("s", "b", "none"), 2: ("r", "t", "p", "none")})
        self.check_words("pairs r t", {1: ("s", "t", "none"), 2: ("r", "s", "none")})
        self.check_words("ways b", {1: ("r", "p", "none")})
        self.check_words("names plain r", {1: ("r", "Plain"), 2: ("s", "b", "none")})
        self.check_words("cheapest b p", {1: ("r", "p"), 2: ("b", "s")})
        self.check_words("stock plain r r2", {1: ("r", "Plain"), 2: ("s", "b", "none")}, True)
        for word in ODD_WORDS + ("s", "plain"):
            self.refused(3, f"stock plain r {word}")

    def test_asks_that_functions_refuse(self):
        desk = the_desk("set gone saying word gone / some right on 0", "set far tie link far", "priced q 1 gone", "priced many " + " , ".join(["1 s"] * 13),
                        "set plain room a ; ; ;", f"set wide room a ; {' / '.join(sorted(f'w{k}' for k in range(9)))} ; ;")
        for line, wanted in (("read r gone", ("NoWord", "gone")), ("pairs r far", ("NoLink", "far")), ("cheapest b q", ("NoWord", "gone")),
                             ("cheapest b many", ("TooMany", "sayings", 12)), ("stock not r plain", ("Unlike", "stock")), ("stock not wide", ("TooMany", "words", 8))):
            self.raises(wanted, desk.tell, line)


class Desks(Case):
    def test_run(self):
        desk = the_desk("open r")
        before, told = Desk(desk.told_lines()), desk.told_lines()
        for lines, index, wanted in ((["set x room a ; ; ;", "read r gone"], 1, ("BadText", 0, 2)), (["do mark red c", "watch n s", "set r tie same", "do mark red c"], 3, ("BadDeed", "mark")),
                                     (["open r2", "undo"], 1, ("Nothing",)), ([None], 0, ("BadText", 0, 0)), (["say s b plain", "book b r2 a", "cheapest b q"], 2, ("BadText", 0, 2)),
                                     (["open r2", "do put x", "do put y", "undo", "again", "book q r a a"], 5, ("Twice", "a"))):
            try:
                desk.run(lines)
                self.fail(lines)
            except ValueError as error:
                self.assertEqual((type(error).__name__, error.line), ("BadLine", index))
                self.assertEqual((type(error.error).__name__, *fields_of(error.error)), wanted)
            self.assertTrue(desk == before)
            self.assertEqual(desk.told_lines(), told)
            self.assertRaises(ValueError, Desk, [*told, *lines])
        for value in ODD_VALUES + ("undo", {"undo": 1}, b"undo", desk):
            if not isinstance(value, (list, tuple)):
                for call in (desk.run, Desk):
                    try:
                        call(value)
                        self.fail(value)
                    except ValueError as error:
                        self.assertEqual((type(error).__name__, error.line, type(error.error), error.error.line, error.error.word), ("BadLine", 0, BadText, 0, 0))
        self.assertEqual((desk.run([]), desk.run(()), Desk().kept_names()), ([], [], ()))
        answers = desk.run(("undo",) if desk.house_now().story else ("house",))
        answers.append("x")
        self.assertEqual(len(desk.run(["house"])), 1)

    def test_back(self):
        lines = [*SETUP, "open r", "watch one s", "do mark red c", "undo", "again", "say s b plain", "explain s red not r2 r2", "set r saying thing", "around b b2 plain",
                 "priced p 7 s2", "open r2", "watch one s2", "do put x", "do take a", "undo", "undo"]
        desk, copies = Desk(), [Desk()]
        for line in lines:
            desk.tell(line)
            copies.append(Desk(desk.told_lines()))
        for line, copy in reversed(list(zip(lines, copies))):
            self.assertFalse(desk == copy)
            self.assertEqual(desk.back(), line)
            self.assertTrue(desk == copy)
            self.assertEqual(desk.told_lines(), tuple(lines[:lines.index(line)]) if lines.count(line) == 1 else desk.told_lines())
        self.raises(("Nothing",), desk.back)
        self.assertTrue(desk == Desk())
        desk.run(lines[:3])
        desk.run(["read r s", "show r"])
        self.assertEqual(desk.back(), lines[2])
        self.raises(("NoName", "s"), desk.value_of, "s")

    def test_drawn_sessions(self):
        """Lines told one by one and at once, taken back, and told again make equal desks."""
        rng = drawing(391)
        pool = [*SETUP, "set r room a b ; cup a / red b ; left b a ; size a 1", "set s saying word cup", "open r", "open r2", "watch one s", "watch two s2", "watch one s2",
                "do mark red a", "do unmark red b", "do put d", "do take a", "do tie left a a", "undo", "undo", "again", "say s b plain", "say x b2 not", "explain y red not r",
                "explain y red plain r r2", "around b b either", "book b r a b", "read r s", "ways b", "house", "show x", "cheapest b p", "names not r", "bad", "read r", "set x room"]
        kept = 0
        for _ in range(60):
            desk, deeds, answers = Desk(), [], []
            for line in rng.choices(pool, k=60):
                if rng.random() < 0.15:
                    if deeds:
                        self.assertEqual(desk.back(), deeds.pop())
                    else:
                        self.raises(("Nothing",), desk.back)
                    continue
                before = desk.told_lines()
                try:
                    answer = desk.tell(line)
                except ValueError:
                    self.assertEqual(desk.told_lines(), before)
                    continue
                if line.split(" ")[0] in ("set", "book", "priced", "around", "open", "watch", "do", "undo", "again") or answer.startswith("said"):
                    deeds.append(line)
                self.assertEqual(desk.told_lines(), tuple(deeds))
            other = Desk()
            other.run(deeds)
            one_by_one = Desk()
            for line in deeds:
                one_by_one.tell(line)
            for same in (other, one_by_one, Desk(desk.told_lines()), Desk(list(deeds))):
                self.assertTrue(same == desk and desk == same)
                self.assertEqual(same.kept_names(), desk.kept_names())
            kept += len(desk.kept_names())
            for name in desk.kept_names():
                self.assertTrue(other.value_of(name) == desk.value_of(name))
            self.assertTrue(other.house_now() == desk.house_now())
        self.assertGreater(kept, 200)

    def test_names_and_values(self):
        desk = the_desk()
        self.assertEqual(desk.kept_names(), ("b", "b2", "p", "r", "r2", "s", "s2", "t"))
        self.assertTrue(desk.value_of("s2") == some_of("left", of_word("red")))
        for value in ODD_VALUES + ("R", "r3", "house", of_word("red")):
            self.raises(("NoName", value), desk.value_of, value)
        desk.tell("set s tie same")
        self.assertTrue(desk.value_of("s") == Tie([("same",)]))
        self.raises(("BadText", 0, 2), desk.tell, "read r s")

    def test_equality(self):
        desk = the_desk("open r")
        self.assertTrue(desk == the_desk("open r", "read r s"))
        for lines in ((), ("open r2",), ("open r", "watch one s"), ("open r", "do mark red c", "undo"), ("open r", "set x saying thing"), ("open r", "set s saying thing"),
                      ("open r", "book b r b")):
            self.assertFalse(desk == the_desk(*lines))
        self.assertTrue(the_desk("set s saying thing", "set s saying word red") == the_desk())
        for value in ODD_VALUES + (desk.told_lines(), SETUP):
            self.assertIs(desk == value, False)

    def test_soon_enough(self):
        start = time.time()
        desk = the_desk("open r")
        for number in range(400):
            desk.run([f"set x{number} saying word red", f"watch n{number % 20} x{number}", "do mark red c", "do unmark red c"])
        self.assertEqual(len(desk.told_lines()), len(SETUP) + 1 + 1600)
        self.assertTrue(Desk(desk.told_lines()) == desk)
        for _ in range(1600):
            desk.back()
        self.assertTrue(desk == the_desk("open r"))
        self.assertLess(time.time() - start, 30)
