"""Tests of the errors: their bases, names and attributes."""

import unittest

from swapshelves import errors

ATTRIBUTES = {
    "InvalidPlan": ("part", "index"),
    "InvalidState": (),
    "InvalidCount": (),
    "UnknownPlace": (),
    "UnknownParcel": (),
    "UnknownShelf": (),
    "UnknownCarrier": (),
    "InvalidEffect": (),
    "DifferentSizes": (),
    "InvalidParcels": (),
    "Contradiction": (),
    "InvalidArrangement": (),
    "InvalidSwap": ("index",),
    "ShelfFull": (),
    "ParcelCarried": (),
    "ProgramSyntaxError": ("row", "column"),
    "ProgramError": ("reason", "row", "column"),
    "InvalidText": ("row",),
    "InvalidData": ("offset",),
}


class ErrorsTest(unittest.TestCase):
    def test_base_class_is_a_value_error(self):
        self.assertEqual(errors.ShelfError.__bases__, (ValueError,))

    def test_each_error_is_defined_here_right_below_the_base_class(self):
        for name in ATTRIBUTES:
            kind = getattr(errors, name)
            self.assertEqual(kind.__bases__, (errors.ShelfError,), name)
            self.assertEqual(kind.__module__, "swapshelves.errors", name)

    def test_attributes_are_set_in_order(self):
        for name, attributes in ATTRIBUTES.items():
            told = [f"told {at}" for at in range(len(attributes))]
            error = getattr(errors, name)(*told)
            self.assertEqual([getattr(error, word) for word in attributes], told, name)

    def test_attributes_are_set_by_keyword(self):
        for name, attributes in ATTRIBUTES.items():
            told = {word: at for at, word in enumerate(attributes)}
            error = getattr(errors, name)(**told)
            self.assertEqual({word: getattr(error, word) for word in attributes}, told, name)

    def test_attributes_belong_to_each_object(self):
        one = errors.InvalidPlan("sizes", 1)
        other = errors.InvalidPlan("routes", -1)
        self.assertEqual((one.part, one.index), ("sizes", 1))
        self.assertEqual((other.part, other.index), ("routes", -1))


if __name__ == "__main__":
    unittest.main()
