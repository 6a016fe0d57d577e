import unittest

from escheat import errors


class ErrorsTest(unittest.TestCase):
    ATTRIBUTES = {
        "TextError": ("at",),
        "KindError": ("at",),
        "FlatError": ("path",),
        "RegionError": ("path", "reason"),
        "CodeError": (),
        "CertificateError": ("number", "reason"),
        "StoreError": ("reason",),
        "CommandError": ("line",),
    }
    VALUES = {"at": 17, "path": (0, 3), "reason": "ended", "number": -1, "line": "run  x"}

    def test_base_class(self):
        self.assertEqual(errors.EscheatError.__bases__, (ValueError,))

    def test_direct_subclasses(self):
        for name in self.ATTRIBUTES:
            with self.subTest(name):
                self.assertEqual(getattr(errors, name).__bases__, (errors.EscheatError,))

    def test_no_other_errors(self):
        names = {cls.__name__ for cls in errors.EscheatError.__subclasses__()}
        self.assertEqual(names, set(self.ATTRIBUTES))

    def test_arguments_are_attributes(self):
        for name, attributes in self.ATTRIBUTES.items():
            with self.subTest(name):
                values = [self.VALUES[attribute] for attribute in attributes]
                error = getattr(errors, name)(*values)
                self.assertEqual([getattr(error, attribute) for attribute in attributes], values)
                named = getattr(errors, name)(**dict(zip(attributes, values)))
                self.assertEqual([getattr(named, attribute) for attribute in attributes], values)

    def test_each_object_has_its_own_attributes(self):
        first = errors.TextError(1)
        second = errors.TextError(2)
        self.assertEqual((first.at, second.at), (1, 2))

    def test_messages_can_be_shown(self):
        for name, attributes in self.ATTRIBUTES.items():
            error = getattr(errors, name)(*[self.VALUES[attribute] for attribute in attributes])
            self.assertIsInstance(str(error), str)

    def test_an_index_of_any_size(self):
        huge = 10 ** 6000
        error = errors.KindError(huge)
        self.assertEqual(error.at, huge)
        self.assertIsInstance(str(error), str)


if __name__ == "__main__":
    unittest.main()
