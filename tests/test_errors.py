from sayable import errors
from sayable.errors import (BadBook, BadDeed, BadLine, BadLoose, BadNumbers, BadPlace, BadPriced, BadRoom, BadSaying, BadTalk,
                            BadTeller, BadText, BadTie, BadTranslation, Missing, NoLink, NoName, NoScale, NoThing, NoWay,
                            NoWord, NotLet, Nothing, SayError, TooMany, Twice, Unlike)
from tests.helpers import Case, ODD_VALUES

PART = (BadRoom, BadDeed, BadLoose, BadSaying, BadBook, BadPlace, BadTie, BadPriced, BadTalk, BadTeller, BadTranslation,
        BadNumbers)
MISSING = (NoThing, NoWord, NoLink, NoScale, NoWay, NoName)
FIELDS = ([(kind, ("part",)) for kind in PART] + [(kind, ("name",)) for kind in (Missing, *MISSING, Twice)]
          + [(NotLet, ("way", "kind")), (Unlike, ("what",)), (TooMany, ("what", "most")), (BadText, ("line", "word")),
             (BadLine, ("line", "error"))])


class Errors(Case):
    def test_fields_are_kept_by_place_and_by_name(self):
        for kind, names in FIELDS:
            for value in (*ODD_VALUES, 10 ** 6000, ValueError("x")):
                values = [value] * (len(names) - 1) + [[value]]
                for error in (kind(*values), kind(**dict(zip(names, values)))):
                    for name, kept in zip(names, values):
                        self.assertIs(getattr(error, name), kept)
                    self.assertIsInstance(str(error), str)

    def test_fields_cannot_be_left_out(self):
        for kind, names in FIELDS:
            with self.assertRaises(TypeError):
                kind()
            with self.assertRaises(TypeError):
                kind(*["x"] * (len(names) + 1))
        self.assertIsInstance(Nothing(), SayError)

    def test_above_and_below(self):
        self.assertEqual(SayError.__bases__, (ValueError,))
        for kind in (*PART, Missing, NotLet, Twice, Unlike, Nothing, TooMany, BadText, BadLine):
            self.assertEqual(kind.__bases__, (SayError,))
        for kind in MISSING:
            self.assertEqual(kind.__bases__, (Missing,))
        for kind in (*PART, *MISSING, Missing, NotLet, Twice, Unlike, Nothing, TooMany, BadText, BadLine):
            self.assertFalse(issubclass(kind, (LookupError, TypeError, ArithmeticError, RuntimeError)))
            self.assertEqual(kind.__module__, "sayable.errors")

    def test_no_other_errors(self):
        made = {name for name, kind in vars(errors).items() if isinstance(kind, type)}
        self.assertEqual(made, {kind.__name__ for kind, _ in FIELDS} | {"Nothing", "SayError"})
