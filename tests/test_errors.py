import unittest

from sweetsring import errors

WITHOUT_FIELDS = ["BadChildren", "BadParts", "BadRounds", "BadMost", "TooMany", "BadChild", "BadGift"]
WITH_INDEX = ["BadSteps", "BadSweets", "BadRows", "BadSeen"]
WITH_WORD = ["BadText"]


class ErrorTest(unittest.TestCase):
    """The interface: sweetsring/errors.py."""

    def test_the_base_class(self):
        self.assertEqual((ValueError,), errors.SweetError.__bases__)
        self.assertEqual("sweetsring.errors", errors.SweetError.__module__)

    def test_direct_subclasses(self):
        names = WITHOUT_FIELDS + WITH_INDEX + WITH_WORD
        self.assertEqual(sorted(names), sorted(kind.__name__ for kind in errors.SweetError.__subclasses__()))
        for name in names:
            kind = getattr(errors, name)
            self.assertEqual((errors.SweetError,), kind.__bases__)
            self.assertEqual("sweetsring.errors", kind.__module__)

    def test_without_fields(self):
        for name in WITHOUT_FIELDS:
            error = getattr(errors, name)()
            self.assertEqual({}, vars(error))

    def test_with_a_field(self):
        for names, field in ((WITH_INDEX, "index"), (WITH_WORD, "word")):
            for name in names:
                for value in (None, 0, 7):
                    error = getattr(errors, name)(value)
                    self.assertEqual({field: value}, vars(error))
                    self.assertEqual({field: value}, vars(getattr(errors, name)(**{field: value})))

    def test_a_field_must_be_passed(self):
        for name in WITH_INDEX + WITH_WORD:
            with self.assertRaises(TypeError):
                getattr(errors, name)()
