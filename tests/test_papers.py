from sayable.papers import Denial, Paper, fixed
from sayable.sayings import of_word
from tests.helpers import Case


class Papers(Case):
    def test_example(self):
        self.assertEqual([fixed([1, {"b": [2], "a": None}]), bool(Paper("note", [1])), bool(Denial("note")),
                          Paper("note", [1]) == Paper("note", (1,)), Paper("note", 1) == Denial("note", 1)],
                         [(1, (("a", None), ("b", (2,)))), True, False, True, False])

    def test_fixed(self):
        for value in (None, 5, True, "ab", b"ab", 2.5):
            self.assertIs(fixed(value), value)
        self.assertEqual(fixed({}), ())
        self.assertEqual(fixed([]), ())
        self.assertEqual(fixed({10: [1], -2: {}, 3: ({"z": [[]]},)}), ((-2, ()), (3, ((("z", ((),)),),)), (10, (1,))))
        self.assertEqual(fixed(([1], (2, [3]))), ((1,), (2, (3,))))
        deep = []
        for _ in range(59):
            deep = [deep]
        self.assertEqual(repr(fixed(deep)).count("("), 60)

    def test_parts_are_copies(self):
        told = [1, [2], {"a": [3]}]
        paper = Paper("note", told, "x")
        told[1].append(4)
        told[2]["a"].append(4)
        told.append(5)
        self.assertEqual(paper.parts, ((1, (2,), (("a", (3,)),)), "x"))
        self.assertEqual(paper.word, "note")
        self.assertEqual(Paper("note").parts, ())

    def test_equality(self):
        self.assertEqual(Paper("note", {"a": 1, "b": 2}), Paper("note", {"b": 2, "a": 1}))
        self.assertEqual(Denial("no", [of_word("a")]), Denial("no", (of_word("a"),)))
        self.assertEqual(Paper("note", 1), Paper("note", True))
        for other in (Paper("note", 2), Paper("other", 1), Paper("note"), Paper("note", 1, 1), Denial("note", 1), 1, "note",
                      None, ("note", (1,))):
            self.assertNotEqual(Paper("note", 1), other)
            self.assertNotEqual(other, Paper("note", 1))

    def test_equality_of_the_same_class_alone(self):
        class One(Paper):
            pass

        class Other(Paper):
            pass

        class No(Denial):
            pass

        self.assertEqual(One("note", 1), One("note", 1))
        for other in (Other("note", 1), Paper("note", 1), One("note", 2), One("x", 1), No("note", 1)):
            self.assertFalse(One("note", 1) == other)
            self.assertFalse(other == One("note", 1))
        for other in (No("no", 1), Denial("no", 2), Denial("x", 1), Denial("no"), Paper("no", 1), 1):
            self.assertFalse(Denial("no", 1) == other)
            self.assertFalse(other == Denial("no", 1))

    def test_denials(self):
        self.assertIsInstance(Denial("no"), Paper)
        self.assertEqual([bool(Paper("no")), bool(Denial("no", 1)), Denial("no", [1]).parts], [True, False, ((1,),)])
        self.assertEqual(Denial("no", [1]).word, "no")

    def test_listed_methods_stand_in_the_classes(self):
        for kind in (Paper, Denial):
            self.assertIn("__eq__", vars(kind))
            self.assertIn("__init__", vars(kind))
