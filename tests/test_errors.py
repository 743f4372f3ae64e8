import unittest

from toldproducts import errors

NAMES = """InvalidNumber InvalidRow InvalidTable InvalidSpan InvalidBasis UnlikeSizes InvalidTerm InvalidLetter
NotLinear NotTwoSided NotWithin InvalidMap InvalidForm InvalidKind InvalidTicket InvalidUnit WrongKind InvalidName
DoubleName UnknownName NothingToUndo Unreadable""".split()


class Errors(unittest.TestCase):
    def test_bases(self):
        self.assertEqual(errors.TableError.__bases__, (ValueError,))
        for name in NAMES:
            self.assertEqual(getattr(errors, name).__bases__, (errors.TableError,), name)

    def test_no_other_class(self):
        found = [name for name, thing in vars(errors).items() if isinstance(thing, type)]
        self.assertEqual(sorted(found), sorted(NAMES + ["TableError"]))

    def test_defined_here(self):
        for name in NAMES + ["TableError"]:
            self.assertEqual(getattr(errors, name).__module__, "toldproducts.errors")

    def test_value_is_stored_itself(self):
        for name in NAMES + ["TableError"]:
            kind = getattr(errors, name)
            for value in [[[(1, 2)]], (2, 4), 0, "abc", None, kind, {"a": []}]:
                self.assertIs(kind(value).value, value)
                self.assertIs(kind(value=value).value, value)

    def test_one_argument(self):
        for name in NAMES + ["TableError"]:
            kind = getattr(errors, name)
            for wrong in [(), (1, 2)]:
                with self.assertRaises(TypeError):
                    kind(*wrong)

    def test_caught_as_table_error_and_value_error(self):
        for name in NAMES:
            for kind in [errors.TableError, ValueError]:
                with self.assertRaises(kind):
                    raise getattr(errors, name)([1])
