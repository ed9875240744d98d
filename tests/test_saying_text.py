from sayable.errors import BadText
from sayable.sayings import Saying
from tests.helpers import Case, ODD_VALUES, drawing, drawn_room, drawn_saying


class SayingText(Case):
    def fails(self, word, text):
        self.raises(("BadText", 0, word), Saying.read, text)

    def test_no_string(self):
        for value in ODD_VALUES + (["thing"], b"thing"):
            if not isinstance(value, str):
                self.fails(0, value)

    def test_words(self):
        self.fails(0, "")
        self.fails(0, " thing")
        self.fails(1, "thing ")
        self.fails(1, "thing  / nothing")
        self.fails(0, "Thing")
        self.fails(0, "/")
        self.fails(1, "word")
        self.fails(1, "word /")
        self.fails(1, "word W")
        self.fails(2, "word a b")
        self.fails(2, "thing /")
        self.fails(2, "thing / ")
        self.fails(3, "thing / word")
        self.fails(1, "thing nothing")

    def test_numbers(self):
        self.assertEqual(Saying.read("thing / not 0 / not 1").parts[-1], ("not", 1))
        for word in ("1", "2", "-0", "-1", "00", "+0", "", "a", "0.0", "\u0660", "1000000000", "/"):
            self.fails(3, f"thing / not {word}")
        self.fails(1, "not 0")
        self.fails(3, "some l on 0")
        self.fails(4, "thing / both 0")
        self.fails(4, "thing / both 0 /")
        self.fails(4, "thing / both 0 1")
        for word in ("0", "1", "41", "02", "-2", "two", ""):
            self.fails(3, f"thing / least {word} l on 0")
        for word in ("2", "40"):
            self.assertEqual(str(Saying.read(f"thing / least {word} l on 0")), f"thing / least {word} l on 0")

    def test_directions_and_names(self):
        for word in ("up", "On", "", "0", "/"):
            self.fails(4, f"thing / some l {word} 0")
        self.fails(3, "thing / some 0 on 0")
        self.fails(1, "top 7 0")
        self.fails(2, "above s")
        self.fails(2, "above s 7")
        self.fails(3, "above s w 0")

    def test_parts_that_equal_one_ahead(self):
        self.fails(2, "thing / thing")
        self.fails(2, "thing / thing / not 0")
        self.fails(4, "word a / word a")
        self.fails(9, "thing / not 0 / not 1 / not 0")
        self.fails(8, "thing / both 0 0 / both 0 0")
        self.fails(10, "thing / some l on 0 / some l on 0")

    def test_another_order_or_needless_parts(self):
        self.fails(8, "word b / word a / both 1 0")
        self.fails(2, "thing / nothing")
        self.fails(8, "word a / word b / either 0 0")
        self.fails(7, "word a / word b / not 0")
        self.fails(8, "word a / word b / both 0 0")
        for text in ("word b / word a / both 0 1", "word a / word b / both 0 1 / both 0 2"):
            self.assertEqual(str(Saying.read(text)), text)

    def test_words_that_stand_nowhere(self):
        rng = drawing(9)
        for _ in range(60):
            words = str(drawn_saying(rng, drawn_room(rng, 2, 2, 2, 1), 8)).split(" ")
            for at in range(len(words) + 1):
                for odd in ("?", "", "A", "02", "+1", "--1", "1234567890", "\t", "w0\n"):
                    self.fails(at, " ".join(words[:at] + [odd] + words[at + 1:]))
                    self.fails(at, " ".join(words[:at] + [odd] + words[at:]))
            self.fails(0, " " + " ".join(words))

    def test_one_word_off(self):
        rng = drawing(8)
        for _ in range(300):
            words = str(drawn_saying(rng, drawn_room(rng, 2, 2, 2, 1), 8)).split(" ")
            at = rng.randrange(len(words))
            odd = rng.choice(words + ["", "/", "thing", "0", "1", "2", "on", "w0", "both", "-1", "A"])
            for changed in (words[:at] + [odd] + words[at + 1:], words[:at] + [odd] + words[at:], words[:at] + words[at + 1:],
                            words[:at] + [words[at]] + words[at:], [""] + words, words + [""], words[:at] + ["", words[at]] + words[at + 1:],
                            words[:at]):
                self.check_text(changed)

    def check_text(self, words):
        text = " ".join(words)
        try:
            self.assertEqual(str(Saying.read(text)), text)
            return
        except BadText as error:
            self.assertEqual(error.line, 0)
            at = error.word
        if not words:
            return
        self.assertLessEqual(at, len(words))
        if at == len(words) - 1:
            return
        self.assertEqual(self.told(Saying.read, " ".join(words[:at + 1])), ("BadText", 0, at))
