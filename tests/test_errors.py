"""The errors of the interface: their bases, and what they keep."""

import unittest

from shareforsure import errors

BASES = {
    "YardError": ValueError, "BadText": errors.YardError, "BadTree": errors.YardError, "TooGreat": errors.YardError,
    "BadGift": errors.YardError, "BadAct": errors.YardError, "BadAsk": errors.YardError,
    "NothingDone": errors.YardError, "NameMissing": LookupError, "UnknownName": errors.NameMissing,
}
KEPT = [("BadText", "place"), ("BadGift", "number"), ("BadAct", "word"), ("BadAsk", "word"), ("UnknownName", "name")]


class Errors(unittest.TestCase):
    def test_each_has_its_direct_base_and_no_other(self):
        for name, base in BASES.items():
            self.assertEqual((base,), getattr(errors, name).__bases__, name)
            self.assertEqual("shareforsure.errors", getattr(errors, name).__module__)

    def test_the_two_families_are_apart(self):
        self.assertFalse(issubclass(errors.YardError, LookupError))
        self.assertFalse(issubclass(errors.NameMissing, ValueError))
        self.assertFalse(issubclass(errors.UnknownName, errors.YardError))

    def test_arguments_are_kept_as_they_are(self):
        for name, attribute in KEPT:
            for value in (0, "x", None, True, (1, 2), [1, [2]], {"a": []}, 10 ** 39):
                error = getattr(errors, name)(value)
                self.assertIs(value, getattr(error, attribute))
                self.assertEqual([attribute], list(vars(error)))

    def test_a_path_is_kept_as_a_tuple(self):
        for path in ([], (), [1, 2], (1, 2), [0]):
            kept = errors.BadTree(path).path
            self.assertIs(tuple, type(kept))
            self.assertEqual(tuple(path), kept)
        path = [1]
        error = errors.BadTree(path)
        path.append(2)
        self.assertEqual((1,), error.path)

    def test_those_without_arguments(self):
        for name in ("TooGreat", "NothingDone"):
            with self.assertRaises(errors.YardError) as caught:
                raise getattr(errors, name)()
            self.assertEqual({}, vars(caught.exception))

    def test_they_can_be_raised_and_caught_by_their_bases(self):
        for name, attribute in KEPT + [("BadTree", "path")]:
            with self.assertRaises(BASES[name]) as caught:
                raise getattr(errors, name)((3, 4))
            self.assertEqual((3, 4), getattr(caught.exception, attribute))
