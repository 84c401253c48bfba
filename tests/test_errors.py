import unittest

from codenests import errors
from tests.anything import deep

PATHS = ["BadGround", "BadRow", "BadCode", "BadNest", "BadPart", "BadMap", "BadOrder"]
OTHERS = {"BadDeed": "number", "BadLevels": "number", "BadText": "place", "BadAct": "word"}
BARE = ["UnlikeGrounds", "TooGreat", "NothingDone"]
MISSING = {"NoLevel": "level", "UnknownName": "name"}


class Bases(unittest.TestCase):
    def test_nest_error(self):
        self.assertEqual(errors.NestError.__bases__, (ValueError,))
        self.assertFalse(issubclass(errors.NestError, LookupError))

    def test_name_missing(self):
        self.assertEqual(errors.NameMissing.__bases__, (LookupError,))
        self.assertFalse(issubclass(errors.NameMissing, ValueError))

    def test_direct_subclasses_of_nest_error(self):
        for name in PATHS + list(OTHERS) + BARE:
            self.assertEqual(getattr(errors, name).__bases__, (errors.NestError,), name)

    def test_direct_subclasses_of_name_missing(self):
        for name in MISSING:
            self.assertEqual(getattr(errors, name).__bases__, (errors.NameMissing,), name)

    def test_there_are_no_others(self):
        listed = set(PATHS) | set(OTHERS) | set(BARE) | set(MISSING)
        below = errors.NestError.__subclasses__() + errors.NameMissing.__subclasses__()
        self.assertEqual({one.__name__ for one in below}, listed)


class Attributes(unittest.TestCase):
    def test_path_is_kept_as_a_tuple(self):
        inner = [3]
        for name in PATHS:
            for path in [(), [], (0,), [0], (1, 2), [1, 2], [inner], ("a", None), [True, {}]]:
                error = getattr(errors, name)(path)
                self.assertIs(type(error.path), tuple, name)
                self.assertEqual(error.path, tuple(path), name)
                self.assertEqual(list(vars(error)), ["path"], name)

    def test_all_else_is_kept_as_it_is(self):
        for name, attribute in list(OTHERS.items()) + list(MISSING.items()):
            for value in [0, 7, -1, True, None, "goal", "", (), (1, 2), [1, [2]], {"a": 1}, deep(3)]:
                error = getattr(errors, name)(value)
                self.assertIs(getattr(error, attribute), value, name)
                self.assertEqual(list(vars(error)), [attribute], name)

    def test_those_without_arguments(self):
        for name in BARE:
            self.assertEqual(vars(getattr(errors, name)()), {}, name)

    def test_they_are_raised_and_caught(self):
        with self.assertRaises(ValueError) as caught:
            raise errors.BadCode([1, 2])
        self.assertEqual(caught.exception.path, (1, 2))
        with self.assertRaises(LookupError) as caught:
            raise errors.NoLevel("x")
        self.assertEqual(caught.exception.level, "x")
