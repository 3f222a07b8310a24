"""Points 9 and 21: the error classes and their attributes."""

import unittest

from leastspare import errors
from leastspare.disks import Disk
from leastspare.errors import SpareError

GIVEN = """InvalidBlocks InvalidContents InvalidFilling InvalidNumber InvalidBlock InvalidWrite InvalidContent
InvalidRecords InvalidChanges InvalidTold InvalidWish InvalidLot InvalidCodes InvalidGroups InvalidEvents InvalidValues
InvalidCount InvalidPairs InvalidValue InvalidRules InvalidMemories InvalidSteps InvalidState InvalidRing InvalidNames
InvalidText""".split()

ATTRIBUTES = {name: "given" for name in GIVEN}
ATTRIBUTES.update({
    "TooMany": "count", "NotLeft": "filling", "TooFar": "count", "OtherDisk": "disk", "Busy": "wish",
    "NotSafe": "number", "NoWay": "change", "NotKept": "reason", "BadLine": "at",
})
WITHOUT = ["NoWish", "NothingToUndo", "NothingToRedo"]

VALUES = [None, True, 0, -7, 10 ** 60, "", "text", (), (1, [2]), [], [(0, 1)], {}, {"a": [1]}, Disk(2, 2), object()]


class ErrorClasses(unittest.TestCase):
    def test_all_are_direct_subclasses_of_spare_error(self):
        self.assertEqual(len(ATTRIBUTES) + len(WITHOUT), 38)
        for name in [*ATTRIBUTES, *WITHOUT]:
            with self.subTest(name):
                kind = getattr(errors, name)
                self.assertEqual(kind.__bases__, (SpareError,))
                self.assertEqual((kind.__name__, kind.__module__), (name, "leastspare.errors"))

    def test_spare_error_is_a_direct_subclass_of_value_error(self):
        self.assertEqual(SpareError.__bases__, (ValueError,))
        self.assertEqual(SpareError.__module__, "leastspare.errors")

    def test_there_are_no_other_ones(self):
        found = [name for name, kind in vars(errors).items() if isinstance(kind, type)]
        self.assertEqual(sorted(found), sorted(["SpareError", *ATTRIBUTES, *WITHOUT]))

    def test_each_is_of_no_other_class(self):
        kinds = [getattr(errors, name) for name in [*ATTRIBUTES, *WITHOUT]]
        for name in ATTRIBUTES:
            error = getattr(errors, name)(1)
            self.assertIsInstance(error, ValueError)
            self.assertEqual([kind.__name__ for kind in kinds if isinstance(error, kind)], [name])
        for name in WITHOUT:
            error = getattr(errors, name)()
            self.assertIsInstance(error, ValueError)
            self.assertEqual([kind.__name__ for kind in kinds if isinstance(error, kind)], [name])


class Attributes(unittest.TestCase):
    def test_by_position_the_very_object_is_kept(self):
        for name, attribute in ATTRIBUTES.items():
            for value in VALUES:
                with self.subTest(name, value=value):
                    self.assertIs(getattr(getattr(errors, name)(value), attribute), value)

    def test_by_name_the_very_object_is_kept(self):
        for name, attribute in ATTRIBUTES.items():
            for value in VALUES:
                with self.subTest(name, value=value):
                    error = getattr(errors, name)(**{attribute: value})
                    self.assertIs(getattr(error, attribute), value)

    def test_there_is_just_the_listed_one(self):
        for name, attribute in ATTRIBUTES.items():
            self.assertEqual(list(vars(getattr(errors, name)(1))), [attribute])

    def test_it_is_needed(self):
        for name in ATTRIBUTES:
            with self.subTest(name), self.assertRaises(TypeError):
                getattr(errors, name)()

    def test_those_without_are_created_without_arguments(self):
        for name in ["SpareError", *WITHOUT]:
            with self.subTest(name):
                self.assertEqual(vars(getattr(errors, name)()), {})

    def test_they_can_be_raised_and_caught_by_each_of_their_classes(self):
        for name, attribute in ATTRIBUTES.items():
            for kind in (getattr(errors, name), SpareError, ValueError):
                value = [name]
                with self.assertRaises(kind) as caught:
                    raise getattr(errors, name)(value)
                self.assertIs(getattr(caught.exception, attribute), value)
        for name in WITHOUT:
            for kind in (getattr(errors, name), SpareError, ValueError):
                with self.assertRaises(kind):
                    raise getattr(errors, name)()
