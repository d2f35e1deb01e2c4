"""[0.5] and the heading errors.py: the classes, what they are under, their attributes."""

import inspect
import unittest

from wheelchorus import errors

LISTED = {
    "BadNumber": "number", "BadOffset": "offset", "BadTown": "what", "NoBox": "number", "NoLoop": "loop",
    "BadRow": "row what", "BadCase": "case", "NoLay": "wanted", "NoStretch": "loop stretch", "NotNow": "word",
    "NoDeed": "deed", "BadTimed": "index", "BadTape": "at", "BadColumns": "index", "BadQuestion": "what",
    "TooManyCases": "number", "TooManyLays": "count", "BadHiding": "what", "BadRing": "text", "BadFault": "fault",
    "NoFault": "fault", "BadHouse": "what", "BadLevels": "what at", "BadCard": "what", "BadCardText": "text",
    "BadStations": "stations", "NoCrew": "number crew", "NoStation": "number station", "CardTwice": "number",
    "NoCard": "number", "NoCall": "number", "TopGrade": "number", "NoPlace": "crew", "TooManyStandings": "count",
    "BadService": "what", "NotAllowed": "word", "NoHouse": "box", "BadHappening": "happening",
    "BadStatement": "statement", "BadChange": "index", "CannotBe": "why", "TooManyChanges": "count",
    "NoSet": "thing", "BadSigns": "what", "BadTapes": "index", "BadDeskDeed": "index", "BadPage": "line",
}


class ErrorsTest(unittest.TestCase):
    def test_wheel_error_is_directly_under_value_error(self):
        self.assertEqual(errors.WheelError.__bases__, (ValueError,))

    def test_all_listed_classes_and_no_others(self):
        found = {name for name, thing in vars(errors).items() if inspect.isclass(thing)}
        self.assertEqual(found, set(LISTED) | {"WheelError"})

    def test_each_class_is_directly_under_wheel_error(self):
        for name in LISTED:
            self.assertEqual(getattr(errors, name).__bases__, (errors.WheelError,), name)

    def test_arguments_become_attributes_and_stay_the_same_objects(self):
        for name, words in LISTED.items():
            names = words.split()
            made = getattr(errors, name)
            self.assertEqual(list(inspect.signature(made.__init__).parameters)[1:], names)
            things = [[name, position] for position in range(len(names))]
            error = made(*things)
            for word, thing in zip(names, things):
                self.assertIs(getattr(error, word), thing)

    def test_they_are_caught_as_value_errors(self):
        for name, words in LISTED.items():
            with self.assertRaises(ValueError):
                raise getattr(errors, name)(*words.split())


if __name__ == "__main__":
    unittest.main()
