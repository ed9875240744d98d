from sayable.errors import BadText
from sayable.rooms import Room
from tests.helpers import Case, ODD_VALUES, drawing, drawn_room


class RoomText(Case):
    def fails(self, word, text):
        self.raises(("BadText", 0, word), Room.read, text)

    def test_there_and_back(self):
        rng = drawing(1)
        for _ in range(200):
            room = drawn_room(rng, 6, rng.randint(0, 3), rng.randint(0, 2), rng.randint(0, 2))
            self.assertEqual(Room.read(str(room)), room)
        for text in ("a ; ; ;", "a ; w ; ;", "a ; ; l ; s", "a ; ; ; s / t a 0", "b a ; w b a ; l b a a b ; s b -1 a 10"):
            self.assertEqual(str(Room.read(text)), text)

    def test_words_that_stand_nowhere(self):
        rng = drawing(3)
        for _ in range(60):
            words = str(drawn_room(rng, 4, rng.randint(0, 3), rng.randint(0, 2), rng.randint(0, 2))).split(" ")
            for at in range(len(words) + 1):
                for odd in ("?", "", "A", "02", "+1", "--1", "-0", "1234567890", "\t", "w0\n"):
                    self.fails(at, " ".join(words[:at] + [odd] + words[at + 1:]))
                    self.fails(at, " ".join(words[:at] + [odd] + words[at:]))
            self.fails(0, " " + " ".join(words))

    def test_no_string(self):
        for value in ODD_VALUES + (["a ; ; ;"], b"a ; ; ;"):
            if not isinstance(value, str):
                self.fails(0, value)

    def test_things(self):
        self.fails(0, "")
        self.fails(0, " a ; ; ;")
        self.fails(0, "; ; ;")
        self.fails(0, "A ; ; ;")
        self.fails(1, "a")
        self.fails(1, "a a ; ; ;")
        self.fails(1, "a  b ; ; ;")
        self.fails(2, "a b / ; ; ;")
        forty = " ".join(f"t{k}" for k in range(40))
        self.assertEqual(len(Room.read(forty + " ; ; ;")), 40)
        self.fails(40, forty + " t40 ; ; ;")

    def test_ends(self):
        self.fails(2, "a ;")
        self.fails(3, "a ; ;")
        self.fails(4, "a ; ; ; ;")
        self.fails(4, "a ; ; ; ")
        self.fails(4, "a ; ; ; /")
        self.fails(6, "a ; ; ; s a")
        self.fails(6, "a ; ; ; s /")
        self.fails(5, "a ; ; ; s ;")
        self.fails(3, "a ; w")
        self.fails(4, "a ; w /")
        self.fails(4, "a ; w / ; ;")
        self.fails(2, "a ; / w ; ;")

    def test_words(self):
        self.fails(4, "a b ; w c ; ;")
        self.fails(5, "a b ; w a a ; ;")
        self.fails(5, "a b ; w b a ; ;")
        self.fails(6, "a b ; w b / v ; ;")
        self.fails(6, "a b ; w b / w ; ;")
        self.fails(3, "a b ; W ; ;")
        sixty = " / ".join(sorted(f"w{k}" for k in range(60)))
        self.assertEqual(len(Room.read(f"a ; {sixty} ; ;").words), 60)
        self.fails(2 + 60 + 59, f"a ; {sixty} / x ; ;")
        self.fails(2 + 60 + 59, f"a ; {sixty} / 7 ; ;")

    def test_links(self):
        self.assertEqual(Room.read("a b ; ; l a a a b b a ;").pairs_of("l"), (("a", "a"), ("a", "b"), ("b", "a")))
        self.fails(6, "a b ; ; l a ;")
        self.fails(7, "a b ; ; l b a a b ;")
        self.fails(8, "a b ; ; l a b a b ;")
        self.fails(8, "a b ; ; l a b a a ;")
        self.fails(8, "a b ; ; l a b a")
        self.fails(6, "a b ; ; l a c ;")
        self.fails(8, "a b ; ; l a b /")
        self.fails(8, "a b ; ; l a b / k ;")
        eight = " / ".join(f"l{k}" for k in range(8))
        self.assertEqual(len(Room.read(f"a ; ; {eight} ;").links), 8)
        self.fails(3 + 15, f"a ; ; {eight} / x ;")

    def test_scales(self):
        for number in ("0", "-1", "7", "999999999", "-999999999", "10"):
            self.assertEqual(Room.read(f"a ; ; ; s a {number}").number_of("s", "a"), int(number))
        for number in ("-0", "+1", "01", "-01", "1000000000", "-1000000000", "", "-", "--1", "1.0", "a", "/", "\u0661", "1_0", "\u00b2"):
            self.fails(6, f"a ; ; ; s a {number}")
        self.fails(7, "a b ; ; ; s a")
        self.fails(7, "a b ; ; ; s a a 1")
        self.fails(8, "a b ; ; ; s b 1 a 1")
        self.fails(8, "a b ; ; ; s a 1 a 1")
        self.fails(6, "a b ; ; ; s 1")
        eight = " / ".join(f"s{k} a {k}" for k in range(8))
        self.assertEqual(len(Room.read(f"a ; ; ; {eight}").scales), 8)
        self.fails(4 + 31, f"a ; ; ; {eight} / x")

    def test_one_word_off(self):
        """A text either tells a room with just this text, or fails where all ahead could go on."""
        rng = drawing(2)
        for _ in range(150):
            room = drawn_room(rng, 4, 2, 2, 2)
            words = str(room).split(" ")
            at = rng.randrange(len(words))
            odd = rng.choice(words + ["", ";", "/", "x", "-1", "0", "00", "t0", "w1"])
            texts = [words[:at] + [odd] + words[at + 1:], words[:at] + [odd] + words[at:], words[:at] + words[at + 1:],
                     words[:at] + [words[at]] + words[at:], [""] + words, words + [""], words[:at]]
            for changed in texts:
                self.check_text(changed)

    def check_text(self, words):
        text = " ".join(words)
        try:
            self.assertEqual(str(Room.read(text)), text)
            return
        except BadText as error:
            self.assertEqual(error.line, 0)
            at = error.word
        if not words:
            return
        self.assertLessEqual(at, len(words))
        if 0 < at:
            ahead = " ".join(words[:at])
            self.assertIn(self.told(Room.read, ahead), (None, ("BadText", 0, at)))
        self.assertEqual(self.told(Room.read, " ".join(words[:at + 1])), ("BadText", 0, at))
