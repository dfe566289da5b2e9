"""Errors: what they keep and what they are."""

from betweenfaces import errors
from tests.values import Case, odd_values

FACE_ERRORS = {
    "InvalidRatio": (), "NoQuotient": (), "InvalidAxis": ("reason",), "InvalidSetting": ("name",),
    "InvalidRoom": ("name",), "InvalidTent": (), "InvalidRow": ("reason",), "InvalidLetter": ("reason",),
    "InvalidDesign": ("reason",), "Needed": ("name",), "InvalidJoin": ("name",), "InvalidMasters": ("index",),
    "NotOneRoom": (), "InvalidChange": (), "InvalidText": ("line", "word"), "UnknownCommand": ("word",),
    "NothingToUndo": (),
}
MISSING_ERRORS = {"UnknownAxis": ("name",), "UnknownLetter": ("name",)}


class Errors(Case):
    def test_fields_are_kept_by_position_and_by_name(self):
        for name, fields in {**FACE_ERRORS, **MISSING_ERRORS}.items():
            error_class = getattr(errors, name)
            for value in odd_values():
                values = [value, [value]][:len(fields)]
                by_position = error_class(*values)
                by_name = error_class(**dict(zip(fields, values)))
                for error in (by_position, by_name):
                    self.assertEqual(list(vars(error)), list(fields))
                    for field, told in zip(fields, values):
                        self.assertIs(getattr(error, field), told)

    def test_each_is_of_its_own_class_alone(self):
        for names, base, other in ((FACE_ERRORS, "FaceError", LookupError), (MISSING_ERRORS, "MissingError", ValueError)):
            for name, fields in names.items():
                error_class = getattr(errors, name)
                self.assertEqual(error_class.__bases__, (getattr(errors, base),))
                self.assertFalse(issubclass(error_class, other))
        self.assertEqual(errors.FaceError.__bases__, (ValueError,))
        self.assertEqual(errors.MissingError.__bases__, (LookupError,))

    def test_raised_and_caught(self):
        with self.assertRaises(errors.FaceError) as caught:
            raise errors.InvalidText(3, word="x")
        self.assertEqual((caught.exception.line, caught.exception.word), (3, "x"))
        with self.assertRaises(errors.MissingError):
            raise errors.UnknownLetter(name=[1])
        with self.assertRaises(ValueError):
            raise errors.FaceError()
        with self.assertRaises(LookupError):
            raise errors.MissingError()
