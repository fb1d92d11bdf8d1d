import unittest

from crankdrum import errors

STRAIGHT_UNDER = ("BadMachine", "BadDeed", "BadBook", "BadValue", "Stuck", "TooSmall")


def made(name):
    if name == "BadBook":
        return errors.BadBook(3, "claim")
    if name == "Stuck":
        return errors.Stuck(5)
    return getattr(errors, name)("why")


class Classes(unittest.TestCase):
    def test_drum_error_is_a_value_error(self):
        self.assertEqual(errors.DrumError.__bases__, (ValueError,))

    def test_each_class_stands_straight_under_drum_error(self):
        for name in STRAIGHT_UNDER:
            self.assertEqual(getattr(errors, name).__bases__, (errors.DrumError,), name)

    def test_each_class_is_taken_by_drum_error_and_value_error_and_no_other(self):
        for name in STRAIGHT_UNDER:
            for taker in (errors.DrumError, ValueError):
                with self.assertRaises(taker):
                    raise made(name)
            for other in STRAIGHT_UNDER:
                self.assertEqual(isinstance(made(name), getattr(errors, other)), name == other)

    def test_bad_book_has_a_number_and_a_word(self):
        self.assertEqual((made("BadBook").at, made("BadBook").word), (3, "claim"))
        self.assertEqual((errors.BadBook(0, "input").at, errors.BadBook(0, "input").word), (0, "input"))

    def test_stuck_has_a_number(self):
        self.assertEqual(made("Stuck").number, 5)
        self.assertEqual(errors.Stuck(0).number, 0)
