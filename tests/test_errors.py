"""The errors [5] and the attributes that the interface lists for them."""

import unittest

from migraproof import errors

# Each class with arguments that create an object, and the attributes it then has.
LISTED = (
    ("TextError", (3, "no tables"), {"place": 3, "reason": "no tables"}),
    ("DuplicateName", ("t.a",), {"name": "t.a"}),
    ("UnknownName", ("t",), {"name": "t"}),
    ("KindMismatch", (("=", ("cell", "x"), ("cell", ("x",))),),
     {"comparison": ("=", ("cell", "x"), ("cell", ("x",)))}),
    ("TooManyCases", (301,), {"count": 301}),
    ("NotOptional", ("t",), {"name": "t"}),
    ("GivenTwice", ("t.a",), {"name": "t.a"}),
    ("WrongKind", ("t.a",), {"name": "t.a"}),
    ("NotAssigned", ("t.a",), {"name": "t.a"}),
    ("InvalidRecord", (None,), {"key": None}),
    ("WrongMany", (7,), {"count": 7}),
    ("WrongResult", (2,), {"place": 2}),
    ("UnknownText", (2, "v2"), {"place": 2, "text": "v2"}),
    ("SchemasDiffer", (), {}),
    ("InvalidResults", (0,), {"place": 0}),
    ("DropsRecords", (1,), {"place": 1}),
    ("NameTaken", ("archive",), {"name": "archive"}),
    ("UnknownKey", ("",), {"key": ""}),
    ("NoWayBack", (0,), {"number": 0}),
    ("UnknownVersion", (-1,), {"number": -1}),
    ("NothingToRollBack", (), {}),
    ("DatabaseFull", (), {}),
    ("TooManySteps", (), {}),
    ("LogFull", (), {}),
)


class Errors(unittest.TestCase):
    def test_each_listed_class_is_there_and_no_other(self):
        found = {name for name, value in vars(errors).items()
                 if isinstance(value, type) and issubclass(value, BaseException)}
        self.assertEqual(found, {name for name, _, _ in LISTED} | {"MigrationError"})

    def test_each_class_is_a_direct_subclass_of_the_base_class(self):
        self.assertEqual(errors.MigrationError.__bases__, (ValueError,))
        for name, _, _ in LISTED:
            with self.subTest(name=name):
                found = getattr(errors, name)
                self.assertEqual(found.__bases__, (errors.MigrationError,))
                self.assertEqual(found.__module__, "migraproof.errors")

    def test_each_object_has_exactly_its_attributes_at_once(self):
        for name, arguments, attributes in LISTED:
            with self.subTest(name=name):
                error = getattr(errors, name)(*arguments)
                self.assertEqual(vars(error), attributes)

    def test_each_error_can_be_caught_and_shown(self):
        for name, arguments, _ in LISTED:
            with self.subTest(name=name):
                with self.assertRaises(ValueError) as caught:
                    raise getattr(errors, name)(*arguments)
                self.assertIsInstance(str(caught.exception), str)


if __name__ == "__main__":
    unittest.main()
