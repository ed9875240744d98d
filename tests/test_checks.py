from sayable.checks import is_integer, is_name, is_stem, is_within, joined_name
from tests.helpers import Case, ODD_VALUES


class Checks(Case):
    def test_example(self):
        self.assertEqual([is_name("left.cup"), is_name("left..cup"), is_name("7up"), is_stem("left.cup"),
                          is_within(True, 0, 3), joined_name("r0", "cup")], [True, False, False, False, False, "r0.cup"])

    def test_integers(self):
        for value in (0, -1, 7, 10 ** 40):
            self.assertIs(is_integer(value), True)
        for value in (True, False, None, "1", 1.0, [], {}, ()):
            self.assertIs(is_integer(value), False)

    def test_within(self):
        for least, most, inside, outside in ((0, 3, (0, 1, 3), (-1, 4)), (None, 3, (-10 ** 30, 3), (4,)),
                                             (0, None, (0, 10 ** 30), (-1,)), (None, None, (-5, 5), ())):
            for value in inside:
                self.assertIs(is_within(value, least, most), True)
            for value in (*outside, True, False, None, "1", 2.0, [1]):
                self.assertIs(is_within(value, least, most), False)

    def test_stems(self):
        for value in ("a", "a" * 12, "z9", "x0y", "r0"):
            self.assertIs(is_stem(value), True)
            self.assertIs(is_name(value), True)
        for value in ("a" * 13, "", "A", "aB", "7", "7up", "a b", " a", "a ", "a-b", "a_b", "a\n", "\u00e4", "a\u00b2", "a\u0661",
                      "\u0430", "a.b", ".", "/", ";"):
            self.assertIs(is_stem(value), False)

    def test_names(self):
        six = ".".join(["a"] * 6)
        long = ".".join(["abcdefghij12"] * 6)
        for value in (six, long, "a.b", "left.cup", "name.a1"):
            self.assertIs(is_name(value), True)
        for value in (six + ".a", six + ".", "." + six, "a..b", ".a", "a.", "a.7", "a.B", "a." + "b" * 13, "." * 99999):
            self.assertIs(is_name(value), False)

    def test_any_values(self):
        for value in ODD_VALUES:
            self.assertIs(is_stem(value), False)
            self.assertIs(is_name(value), False)
        for value in ODD_VALUES:
            self.assertIsInstance(is_integer(value), bool)
            self.assertIsInstance(is_within(value, 0, 5), bool)

    def test_joined(self):
        self.assertEqual(joined_name("a"), "a")
        self.assertEqual(joined_name("a", "b.c", "d"), "a.b.c.d")
        self.assertEqual(joined_name("a.b.c", "d.e.f"), "a.b.c.d.e.f")
        self.raises(("TooMany", "stems", 6), joined_name, "a.b.c", "d.e.f", "g")
        self.raises(("TooMany", "stems", 6), joined_name, "r0", "a.b.c.d.e.f")
