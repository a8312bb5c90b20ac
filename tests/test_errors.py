import copy
import unittest

from keptparts import errors
from support import Case

FIELDS = {
    "BadNumber": ("name",), "BadRun": ("place",), "BadSet": ("place",), "BadPart": ("part",),
    "IsGone": ("part",), "SamePart": ("part",), "BadDemand": ("place",), "BadWorld": ("place",),
    "BadHeights": ("place",), "BadStretch": ("part",), "OtherSize": ("size",), "OtherRow": ("size",),
    "NotJoin": (), "NoStock": (), "NotAStock": ("place",), "NotAgreeing": ("part",),
    "NotCheapest": ("outs", "ins"), "NotSafe": ("outs", "ins"), "NotPossible": ("parts",),
    "Mixed": ("part",), "NoParts": (), "NotFitting": ("part",), "IsFirm": ("part",), "IsDead": ("part",),
    "BadPoint": ("point",), "NoUseful": (), "NotFolding": ("bridge",), "BadText": ("line",),
    "TooMany": ("number",), "IsLost": ("part",), "NotLost": ("part",), "IsBought": ("part",),
    "FixedWanted": (), "NothingBack": (), "Closed": (),
}


class Errors(Case):
    """Promise 2: the classes of the errors and their fields."""

    def test_base(self):
        self.assertEqual(errors.PartsError.__bases__, (ValueError,))

    def test_all_are_direct_subclasses(self):
        for name in FIELDS:
            self.assertEqual(getattr(errors, name).__bases__, (errors.PartsError,), name)

    def test_no_others(self):
        found = {cls.__name__ for cls in errors.PartsError.__subclasses__()}
        self.assertEqual(found, set(FIELDS))

    def test_fields_are_attributes_in_order(self):
        for name, fields in FIELDS.items():
            values = [object() for _ in fields]
            told = getattr(errors, name)(*values)
            self.assertEqual(vars(told), dict(zip(fields, values)), name)

    def test_fields_by_name(self):
        for name, fields in FIELDS.items():
            told = getattr(errors, name)(**{field: 7 for field in fields})
            self.assertEqual(vars(told), {field: 7 for field in fields}, name)

    def test_exactly_the_fields(self):
        for name, fields in FIELDS.items():
            with self.assertRaises(TypeError):
                getattr(errors, name)(*range(len(fields) + 1))
            if fields:
                with self.assertRaises(TypeError):
                    getattr(errors, name)(*range(len(fields) - 1))

    def test_they_can_be_caught_and_copied(self):
        for name, fields in FIELDS.items():
            with self.assertRaises(ValueError):
                raise getattr(errors, name)(*fields)
            told = copy.copy(getattr(errors, name)(*fields))
            self.assertEqual(vars(told), dict(zip(fields, fields)))


if __name__ == "__main__":
    unittest.main()
