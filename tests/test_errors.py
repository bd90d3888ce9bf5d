import inspect
import unittest

from webreckon import errors

TOLD = {
    ("ShapeError", ValueError): {
        "value": """InvalidPlaces InvalidText InvalidIndex InvalidLetters InvalidNumber InvalidFraction InvalidWord
            InvalidLeaning InvalidDye InvalidName InvalidWish InvalidLine NotAWeb""",
        "index": """InvalidTies InvalidLot InvalidRow InvalidValues InvalidBounds InvalidLengths InvalidRooms
            InvalidHeap InvalidLooks InvalidOffers InvalidDeeds""",
    },
    ("QuestionError", LookupError): {
        "value": "UnknownPlace UnknownName NotATree Refused",
        "index": "Broken InUse",
        None: "Apart Looped NoFit Busy NothingToUndo",
    },
    ("SizeError", ArithmeticError): {"limit": "TooMany"},
}


def told_classes():
    for (above, python), attributes in TOLD.items():
        for attribute, names in attributes.items():
            for name in names.split():
                yield getattr(errors, above), python, attribute, name


class Errors(unittest.TestCase):
    def test_the_three_above(self):
        for name, python in TOLD:
            above = getattr(errors, name)
            self.assertEqual(above.__bases__, (python,))
            self.assertEqual(above.__name__, name)

    def test_each_has_the_one_class_above(self):
        for above, python, _, name in told_classes():
            error = getattr(errors, name)
            self.assertEqual(error.__bases__, (above,), name)
            self.assertTrue(issubclass(error, python), name)
            self.assertEqual(error.__name__, name)
            self.assertEqual(error.__module__, "webreckon.errors")

    def test_each_attribute_by_place_and_by_name(self):
        worths = (None, 0, 3, 10 ** 59, True, "abc", b"x", [1, [2]], (1, ("a",)), {"a": []}, object(), int)
        for above, python, attribute, name in told_classes():
            error = getattr(errors, name)
            if attribute is None:
                self.assertIsInstance(error(), above)
                continue
            self.assertEqual(list(inspect.signature(error).parameters), [attribute])
            for worth in worths:
                for made in (error(worth), error(**{attribute: worth})):
                    self.assertIs(getattr(made, attribute), worth)
                    self.assertIsInstance(made, python)
                    str(made)

    def test_each_can_be_raised_and_caught_above(self):
        for above, python, attribute, name in told_classes():
            error = getattr(errors, name)
            for caught in (error, above, python):
                with self.assertRaises(caught):
                    raise error() if attribute is None else error(5)

    def test_no_others(self):
        names = {name for name, worth in vars(errors).items() if inspect.isclass(worth)}
        told = {name for _, _, _, name in told_classes()} | {name for name, _ in TOLD}
        self.assertEqual(names, told)
        self.assertEqual(len(names), 24 + 11 + 1 + 3)


if __name__ == "__main__":
    unittest.main()
