import unittest

from throughline import errors

PLAIN = ["InvalidOptions", "InvalidPort", "InvalidAmount", "UnknownSocket", "SocketInUse", "TooManySockets",
         "ConnectionEnded", "AlreadyFinished", "NotEnded", "OwnAddress", "TickInThePast", "InvalidOctets",
         "InvalidDeed", "UnknownHost", "UnknownFlight", "InvalidFrame", "UnknownChannel", "TooManyChannels"]
WITH_FIELDS = ["DamagedSegment", "InvalidRecord", "InvalidText", "InvalidScript"]


class ErrorsTest(unittest.TestCase):
    def test_the_base_class_is_a_value_error(self):
        self.assertEqual(errors.ThroughlineError.__bases__, (ValueError,))

    def test_all_classes_derive_from_the_base_class(self):
        for name in PLAIN + WITH_FIELDS:
            with self.subTest(name):
                self.assertEqual(getattr(errors, name).__bases__, (errors.ThroughlineError,))

    def test_each_class_is_one_of_its_own(self):
        self.assertEqual(len({getattr(errors, name) for name in PLAIN + WITH_FIELDS}), 22)

    def test_plain_errors_can_be_raised_and_caught_by_the_base_class(self):
        for name in PLAIN:
            with self.subTest(name):
                with self.assertRaises(errors.ThroughlineError) as caught:
                    raise getattr(errors, name)("why")
                self.assertIs(caught.exception.__class__, getattr(errors, name))

    def test_a_damaged_segment_has_its_reason(self):
        self.assertEqual(errors.DamagedSegment("too short").reason, "too short")
        self.assertEqual(errors.DamagedSegment(reason="no port").reason, "no port")

    def test_invalid_records_and_texts_have_their_line(self):
        self.assertEqual(errors.InvalidRecord(7).line, 7)
        self.assertEqual(errors.InvalidText(8).line, 8)
        self.assertEqual(errors.InvalidRecord(line=7).line, 7)
        self.assertEqual(errors.InvalidText(line=8).line, 8)

    def test_an_invalid_script_has_its_place_and_what_was_expected(self):
        error = errors.InvalidScript(3, 14, "a fault")
        self.assertEqual((error.line, error.column, error.expected), (3, 14, "a fault"))
        error = errors.InvalidScript(expected="a number", column=2, line=1)
        self.assertEqual((error.line, error.column, error.expected), (1, 2, "a number"))


if __name__ == "__main__":
    unittest.main()
