"""Tests of fullboats.errors."""

import copy
import unittest

from fullboats import errors

ATTRIBUTES = {
    "InvalidNetwork": ("station", "seat"),
    "InvalidState": (),
    "InvalidCount": (),
    "UnknownStation": (),
    "UnknownSeat": (),
    "UnknownPort": (),
    "UnknownPassenger": (),
    "EmptyBoat": (),
    "InvalidRates": (),
    "InvalidLengths": (),
    "InvalidPassengers": (),
    "TooManyCandidates": (),
    "Contradiction": (),
    "InvalidName": ("name",),
    "UnknownCheckpoint": ("name",),
    "InvalidOperation": ("index",),
    "InvalidEntry": ("index",),
    "ScriptSyntaxError": ("row", "column"),
    "InvalidText": ("row",),
    "InvalidData": ("offset",),
}
# Different, so that attributes that change places are noticed.
VALUES = (3, 5)


class ErrorTest(unittest.TestCase):

    def test_base_class_derives_straight_from_value_error(self):
        self.assertEqual(errors.FerryError.__bases__, (ValueError,))

    def test_each_class_derives_straight_from_the_base_class(self):
        for name in ATTRIBUTES:
            with self.subTest(name=name):
                self.assertEqual(getattr(errors, name).__bases__, (errors.FerryError,))

    def test_classes_are_defined_in_the_file_under_their_names(self):
        for name in ["FerryError", *ATTRIBUTES]:
            with self.subTest(name=name):
                self.assertEqual(getattr(errors, name).__module__, "fullboats.errors")
                self.assertEqual(getattr(errors, name).__name__, name)

    def test_there_are_no_other_errors(self):
        found = [name for name, value in vars(errors).items() if isinstance(value, type)]
        self.assertEqual(sorted(found), sorted(["FerryError", *ATTRIBUTES]))

    def test_attributes_are_set_when_created_by_position(self):
        for name, attributes in ATTRIBUTES.items():
            with self.subTest(name=name):
                values = VALUES[:len(attributes)]
                self.assertEqual(vars(getattr(errors, name)(*values)), dict(zip(attributes, values)))

    def test_attributes_are_set_when_created_by_name(self):
        for name, attributes in ATTRIBUTES.items():
            with self.subTest(name=name):
                wanted = dict(zip(attributes, VALUES))
                self.assertEqual(vars(getattr(errors, name)(**wanted)), wanted)

    def test_attributes_must_be_given(self):
        for name, attributes in ATTRIBUTES.items():
            if attributes:
                with self.subTest(name=name), self.assertRaises(TypeError):
                    getattr(errors, name)()

    def test_each_object_has_its_own_attributes(self):
        first = errors.InvalidNetwork(1, 2)
        second = errors.InvalidNetwork(3, -1)
        self.assertEqual((first.station, first.seat), (1, 2))
        self.assertEqual((second.station, second.seat), (3, -1))

    def test_errors_can_be_copied(self):
        for name, attributes in ATTRIBUTES.items():
            with self.subTest(name=name):
                error = getattr(errors, name)(*VALUES[:len(attributes)])
                self.assertEqual(vars(copy.copy(error)), vars(error))

    def test_base_class_catches_every_error(self):
        for name, attributes in ATTRIBUTES.items():
            with self.subTest(name=name), self.assertRaises(errors.FerryError):
                raise getattr(errors, name)(*VALUES[:len(attributes)])


if __name__ == "__main__":
    unittest.main()
