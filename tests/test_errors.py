import unittest

from paritypool import errors

LISTED = (
    "InvalidArgument", "NotEnoughPieces", "BadPacking", "NoSpace", "NoPool", "NotEnoughDisks", "Damaged",
    "InvalidCall", "InvalidName", "ReadOnly", "NotFound", "AlreadyExists", "NotDirectory", "IsDirectory",
    "NotEmpty", "TooLong", "OverLimit", "Busy", "Conflict", "WrongStream", "WrongBase",
)


class ErrorClasses(unittest.TestCase):
    def test_the_base_class_derives_from_value_error(self):
        self.assertEqual(errors.PoolError.__bases__, (ValueError,))

    def test_each_listed_class_derives_directly_from_the_base_class(self):
        for name in LISTED:
            with self.subTest(name):
                self.assertEqual(getattr(errors, name).__bases__, (errors.PoolError,))

    def test_no_listed_class_is_another_one(self):
        classes = [getattr(errors, name) for name in LISTED]
        self.assertEqual(len(set(classes)), len(LISTED))
        for one in classes:
            for other in classes:
                self.assertEqual(issubclass(one, other), one is other)

    def test_each_class_is_defined_in_the_module_under_its_own_name(self):
        for name in LISTED + ("PoolError",):
            self.assertEqual(getattr(errors, name).__name__, name)
            self.assertEqual(getattr(errors, name).__module__, "paritypool.errors")

    def test_an_error_carries_its_message(self):
        for name in LISTED:
            with self.assertRaisesRegex(errors.PoolError, "^what went wrong$"):
                raise getattr(errors, name)("what went wrong")


if __name__ == "__main__":
    unittest.main()
