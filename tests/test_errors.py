"""The interface of errors: the classes, their place under PricesError, their parameters and attributes."""

import inspect
import unittest

from unseenprices import errors

PARAMETERS = {
    "BadNumber": ("name",),
    "BadThing": ("thing",),
    "BadSet": ("place",),
    "BadEntry": ("place",),
    "Twice": ("place",),
    "BadPair": ("place",),
    "BadStretch": ("thing",),
    "BadWorld": ("place",),
    "BadOrder": ("place",),
    "OtherSize": ("size",),
    "TooMany": ("number",),
    "NoLots": (),
    "BadLots": ("one", "other", "thing"),
    "NotALot": ("things",),
    "NotFree": ("things",),
    "IsBlow": ("things",),
    "IsFirm": ("thing",),
    "IsDead": ("thing",),
    "NotGood": ("row",),
    "NotPlain": (),
    "NotAgreeing": ("thing",),
    "NotTrue": ("place",),
    "IsSeen": ("thing",),
    "NothingBack": (),
    "IsLost": ("thing",),
    "NotLost": ("thing",),
    "Closed": (),
}


class ErrorsTest(unittest.TestCase):
    def test_just_these_classes(self):
        found = {name for name, _ in inspect.getmembers(errors, inspect.isclass)}
        self.assertEqual(found, {"PricesError", *PARAMETERS})

    def test_base(self):
        self.assertEqual(errors.PricesError.__bases__, (ValueError,))
        for name in PARAMETERS:
            self.assertEqual(getattr(errors, name).__bases__, (errors.PricesError,))

    def test_defined_here(self):
        for name in PARAMETERS:
            self.assertEqual(getattr(errors, name).__module__, "unseenprices.errors")

    def test_attributes_in_order(self):
        for name, parameters in PARAMETERS.items():
            given = [f"value {place}" for place in range(len(parameters))]
            error = getattr(errors, name)(*given)
            self.assertEqual(vars(error), dict(zip(parameters, given)), name)
            self.assertEqual(list(vars(error)), list(parameters))

    def test_by_keyword(self):
        for name, parameters in PARAMETERS.items():
            given = {parameter: 7 for parameter in parameters}
            self.assertEqual(vars(getattr(errors, name)(**given)), given)

    def test_every_error_has_words(self):
        for name, parameters in PARAMETERS.items():
            self.assertTrue(str(getattr(errors, name)(*[1 for _ in parameters])))

    def test_words_do_not_need_the_value(self):
        # Python refuses to write out an integer of so many digits.
        self.assertTrue(str(errors.BadThing(10 ** 5000)))
        self.assertTrue(str(errors.NotALot((10 ** 5000,))))
