"""The errors: what each is under, and the things it keeps."""

import unittest

from wirelooker import errors

MADE_OF = {
    "NoCatch": ("word", "at"),
    "NoProtocol": ("word",),
    "NoNumber": ("group", "at"),
    "NoWish": ("word", "at"),
    "NoText": ("at",),
    "NoStack": ("layer", "word"),
    "Full": ("most",),
    "Broken": ("at",),
    "NoRow": (),
    "NoLine": ("name",),
    "NoMoment": ("moment",),
    "NoItem": ("layer", "number"),
    "NoWatch": ("number",),
    "Nothing": (),
}
UNDER = {
    "NoLine": KeyError,
    "NoMoment": IndexError,
    "NoItem": IndexError,
    "NoWatch": LookupError,
    "Nothing": ZeroDivisionError,
}


class TestErrors(unittest.TestCase):
    def test_wire_error_is_right_under_value_error(self):
        self.assertEqual(errors.WireError.__bases__, (ValueError,))

    def test_each_is_right_under_just_one(self):
        for name in MADE_OF:
            kind = getattr(errors, name)
            self.assertEqual(kind.__bases__, (UNDER.get(name, errors.WireError),), name)

    def test_none_is_under_another(self):
        for name in MADE_OF:
            for other in MADE_OF:
                if name != other:
                    self.assertFalse(issubclass(getattr(errors, name), getattr(errors, other)), (name, other))
        for name in UNDER:
            self.assertFalse(issubclass(getattr(errors, name), errors.WireError), name)
            self.assertFalse(issubclass(getattr(errors, name), ValueError), name)

    def test_each_is_defined_here(self):
        for name in ("WireError", *MADE_OF):
            self.assertEqual(getattr(errors, name).__module__, "wirelooker.errors")

    def test_things_by_place_are_kept(self):
        for name, fields in MADE_OF.items():
            for thing in (lambda: [1], lambda: {"a": []}, lambda: None, lambda: "word", lambda: -5, lambda: (object(),)):
                things = [thing() for _ in fields]
                made = getattr(errors, name)(*things)
                for field, kept in zip(fields, things):
                    self.assertIs(getattr(made, field), kept)

    def test_things_by_name_are_kept(self):
        for name, fields in MADE_OF.items():
            things = {field: [field] for field in fields}
            made = getattr(errors, name)(**things)
            self.assertEqual(vars(made), things)
            for field in fields:
                self.assertIs(getattr(made, field), things[field])

    def test_what_is_done_later_shows(self):
        row = []
        made = errors.NoCatch(row, at={"k": row})
        row.append(7)
        self.assertEqual((made.word, made.at), ([7], {"k": [7]}))

    def test_each_wants_just_its_things(self):
        for name, fields in MADE_OF.items():
            if fields:
                for many in (len(fields) - 1, len(fields) + 1):
                    self.assertRaises(TypeError, getattr(errors, name), *[1] * many)

    def test_each_is_raised_and_caught(self):
        for name, fields in MADE_OF.items():
            kind = getattr(errors, name)
            with self.assertRaises(UNDER.get(name, ValueError)) as caught:
                raise kind(*range(len(fields)))
            self.assertEqual([getattr(caught.exception, field) for field in fields], list(range(len(fields))))
            str(caught.exception)


if __name__ == "__main__":
    unittest.main()
