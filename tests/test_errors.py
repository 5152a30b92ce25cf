import unittest

from countonce import errors
from tests.samples import ANY_VALUES

ATTRIBUTES = {
    "InvalidText": ["row"],
    "UnknownTable": ["name"],
    "UnknownAlias": ["name"],
    "NeededAlias": ["name"],
    "WrongRow": ["row"],
    "PresentRow": ["row"],
    "MissingRow": ["row"],
    "Violation": ["found"],
    "TransactionOpen": [],
    "TransactionClosed": [],
    "PromiseBroken": ["promise", "answer"],
    "TooMany": ["limit"],
    "UnknownNumber": ["number"],
    "UnknownColumn": ["column"],
    "TooManyColumns": ["count"],
    "OtherReports": [],
    "GuardBroken": ["number", "found"],
}


class ErrorsTest(unittest.TestCase):
    def test_base_class(self):
        self.assertEqual(errors.CountError.__bases__, (ValueError,))

    def test_each_class_is_a_direct_subclass_and_of_no_other_one(self):
        for name in ATTRIBUTES:
            with self.subTest(name=name):
                found = getattr(errors, name)
                self.assertEqual(found.__bases__, (errors.CountError,))
                self.assertEqual(found.__name__, name)
                self.assertEqual(found.__module__, "countonce.errors")

    def test_classes_are_different(self):
        found = [getattr(errors, name) for name in ATTRIBUTES]
        for one in found:
            self.assertEqual([other for other in found if issubclass(one, other)], [one])

    def test_attributes_by_position_and_by_name(self):
        for name, names in ATTRIBUTES.items():
            for value in ANY_VALUES:
                values = [value, ("other", value)][:len(names)]
                found = getattr(errors, name)
                for error in (found(*values), found(**dict(zip(names, values)))):
                    for attribute, expected in zip(names, values):
                        self.assertIs(getattr(error, attribute), expected, (name, attribute))

    def test_names_in_another_order(self):
        error = errors.GuardBroken(found="pair", number=3)
        self.assertEqual((error.number, error.found), (3, "pair"))
        error = errors.PromiseBroken(answer=("no",), promise="once")
        self.assertEqual((error.promise, error.answer), ("once", ("no",)))

    def test_raised_and_caught(self):
        for name, names in ATTRIBUTES.items():
            for caught in (ValueError, errors.CountError, getattr(errors, name)):
                with self.subTest(name=name, caught=caught):
                    with self.assertRaises(caught) as context:
                        raise getattr(errors, name)(*[7] * len(names))
                    self.assertEqual([getattr(context.exception, one) for one in names], [7] * len(names))


if __name__ == "__main__":
    unittest.main()
