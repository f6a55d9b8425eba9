"""The error classes of the interface."""

from unittest import TestCase

from sawnsheets import errors

PLAIN = """InvalidSize InvalidPattern InvalidPicture InvalidGoals InvalidNumber TooMany InvalidPieces InvalidKinds
UnlikeSizes InvalidIndexes UnknownPiece InvalidOrder UnknownSheet UnknownCell NotWhole InvalidName UnknownKept NoPacket
TooLong""".split()
WITH_ATTRIBUTES = {
    "InvalidPacket": ("part",), "InvalidOrders": ("index",), "InvalidPictures": ("index",), "InvalidRow": ("index",),
    "TooShort": ("index",), "InvalidOperation": ("index",), "InvalidText": ("row", "word"), "DecodeError": ("offset",),
    "ScriptError": ("row",), "ExecutionFailed": ("row",),
}


class ErrorsTest(TestCase):

    def test_the_base_class_is_a_value_error(self):
        self.assertEqual(errors.SheetError.__bases__, (ValueError,))

    def test_all_others_are_direct_subclasses(self):
        for name in [*PLAIN, *WITH_ATTRIBUTES]:
            with self.subTest(name):
                self.assertEqual(getattr(errors, name).__bases__, (errors.SheetError,))
                self.assertEqual(getattr(errors, name).__module__, "sawnsheets.errors")

    def test_there_are_no_others(self):
        found = {kind.__name__ for kind in errors.SheetError.__subclasses__() if kind.__module__ == "sawnsheets.errors"}
        self.assertEqual(found, {*PLAIN, *WITH_ATTRIBUTES})

    def test_attributes_are_set_when_an_error_is_created(self):
        for name, attributes in WITH_ATTRIBUTES.items():
            with self.subTest(name):
                given = {attribute: 3 + k for k, attribute in enumerate(attributes)}
                self.assertEqual(vars(getattr(errors, name)(*given.values())), given)
                self.assertEqual(vars(getattr(errors, name)(**given)), given)

    def test_the_plain_ones_take_a_message(self):
        for name in PLAIN:
            with self.subTest(name):
                self.assertEqual(str(getattr(errors, name)("why")), "why")
