import unittest

from writebacks import errors

WITHOUT_ARGUMENTS = [
    "NoView", "NoTable", "NotSound", "NoParts", "Alike", "TooLarge", "NoWishes", "NoPairs", "NotIndependent",
    "NoState", "NoValue", "NoStep", "NoViews", "NoCell", "Refused", "Full", "NothingDone", "NoText",
]


class ErrorsTest(unittest.TestCase):
    def test_base(self):
        self.assertEqual(errors.WriteError.__bases__, (ValueError,))
        self.assertEqual(errors.WriteError.__name__, "WriteError")
        self.assertEqual(errors.WriteError.__module__, "writebacks.errors")

    def test_each_class_is_derived_directly(self):
        for name in WITHOUT_ARGUMENTS + ["Clash"]:
            with self.subTest(name):
                error = getattr(errors, name)
                self.assertEqual(error.__bases__, (errors.WriteError,))
                self.assertEqual(error.__name__, name)
                self.assertEqual(error.__module__, "writebacks.errors")

    def test_made_without_arguments(self):
        for name in WITHOUT_ARGUMENTS:
            with self.subTest(name):
                error = getattr(errors, name)
                with self.assertRaises(error):
                    raise error()
                self.assertEqual(error().args, ())

    def test_no_other_class(self):
        found = [name for name in vars(errors) if isinstance(getattr(errors, name), type)]
        self.assertEqual(sorted(found), sorted(WITHOUT_ARGUMENTS + ["Clash", "WriteError"]))

    def test_clash_has_its_reason(self):
        reason = ("twice", (0, 1, 2))
        self.assertEqual(errors.Clash(reason).reason, reason)
        self.assertEqual(errors.Clash(reason=reason).reason, reason)
        with self.assertRaises(errors.WriteError) as caught:
            raise errors.Clash(("shown", 0))
        self.assertEqual(caught.exception.reason, ("shown", 0))

    def test_clash_needs_a_reason(self):
        with self.assertRaises(TypeError):
            errors.Clash()


if __name__ == "__main__":
    unittest.main()
