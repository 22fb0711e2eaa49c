import unittest

from throughline.errors import InvalidOptions, ThroughlineError
from throughline.host.options import Options

NEEDED = dict(mss=100, room=1000, life=20, pace=500, tries=5, min_rto=10, max_rto=200)
WHOLE = dict(NEEDED, ack_delay=3, keep_alive=50, nagle=True, control="cubic")
MOST = 1073741824


class OptionsTest(unittest.TestCase):
    def right(self, **values):
        found = Options(**{**NEEDED, **values})
        for name, value in values.items():
            self.assertEqual(getattr(found, name), value)

    def wrong(self, **values):
        with self.assertRaises(InvalidOptions):
            Options(**{**NEEDED, **values})

    def test_the_fields_have_the_names_of_the_parameters(self):
        found = Options(**WHOLE)
        for name, value in WHOLE.items():
            with self.subTest(name):
                self.assertEqual(getattr(found, name), value)

    def test_the_defaults(self):
        found = Options(**NEEDED)
        self.assertEqual((found.ack_delay, found.keep_alive, found.control), (0, 0, "reno"))
        self.assertIs(found.nagle, False)

    def test_the_other_values_are_needed_and_passed_by_name(self):
        for name in NEEDED:
            with self.assertRaises(TypeError):
                Options(**{key: value for key, value in NEEDED.items() if key != name})
        with self.assertRaises(TypeError):
            Options(100, 1000, 20, 500, 5, 10, 200)

    def test_mss(self):
        self.right(mss=8)
        self.right(mss=1460, room=2920)
        self.wrong(mss=7)
        self.wrong(mss=1461, room=262144)
        self.wrong(mss=0)
        self.wrong(mss=-8)

    def test_room(self):
        self.right(room=200)
        self.right(room=262144)
        self.wrong(room=199)
        self.wrong(room=262145)
        self.right(mss=8, room=16)
        self.wrong(mss=8, room=15)
        self.right(mss=1460, room=2920)
        self.wrong(mss=1460, room=2919)
        self.wrong(room=0)

    def test_life(self):
        self.right(life=1)
        self.wrong(life=0)
        self.wrong(life=-1)
        self.wrong(life=-2)
        self.right(life=MOST - 1, pace=1)
        self.wrong(life=MOST, pace=1)

    def test_pace(self):
        self.right(pace=1)
        self.wrong(pace=0)
        self.wrong(pace=-1)
        self.right(pace=MOST // 2, life=1)
        self.wrong(pace=MOST // 2 + 1, life=1)
        self.right(pace=MOST // 4, life=3)
        self.wrong(pace=MOST // 4 + 1, life=3)
        self.wrong(pace=MOST // 4, life=4)
        self.right(pace=MOST // 3, life=2)
        self.wrong(pace=MOST // 3 + 1, life=2)

    def test_tries(self):
        self.right(tries=1)
        self.right(tries=100)
        self.wrong(tries=0)
        self.wrong(tries=101)

    def test_the_least_timeout(self):
        self.right(min_rto=1)
        self.wrong(min_rto=0)
        self.wrong(min_rto=-1)
        self.right(min_rto=200, max_rto=200)
        self.wrong(min_rto=201, max_rto=200)

    def test_the_greatest_timeout(self):
        self.right(max_rto=10)
        self.wrong(max_rto=9)
        self.right(max_rto=MOST)
        self.wrong(max_rto=MOST + 1)
        self.right(min_rto=MOST, max_rto=MOST)
        self.wrong(min_rto=MOST + 1, max_rto=MOST + 1)

    def test_the_delay_of_acknowledgements(self):
        self.right(ack_delay=0)
        self.right(ack_delay=9)
        self.wrong(ack_delay=10)
        self.wrong(ack_delay=-1)
        self.right(ack_delay=0, min_rto=1)
        self.wrong(ack_delay=1, min_rto=1)

    def test_keep_alive(self):
        self.right(keep_alive=0)
        self.right(keep_alive=1)
        self.right(keep_alive=MOST)
        self.wrong(keep_alive=-1)
        self.wrong(keep_alive=MOST + 1)

    def test_nagle(self):
        self.right(nagle=True)
        self.right(nagle=False)

    def test_control(self):
        self.right(control="reno")
        self.right(control="cubic")
        for control in ("", "Reno", "CUBIC", "reno ", "vegas", "renocubic"):
            self.wrong(control=control)

    def test_several_wrong_values(self):
        self.wrong(mss=0, room=0, life=0, pace=0, tries=0, min_rto=0, max_rto=0, ack_delay=-1, keep_alive=-1)

    def test_the_error_is_one_of_the_program_and_a_value_error(self):
        for kind in (ThroughlineError, ValueError):
            with self.assertRaises(kind):
                Options(**{**NEEDED, "tries": 0})

    def test_patience_and_resting(self):
        found = Options(**WHOLE)
        self.assertEqual(found.patience, 1000)
        self.assertEqual(found.resting, 1020)
        found = Options(**{**WHOLE, "tries": 1, "max_rto": 11, "life": 7})
        self.assertEqual((found.patience, found.resting), (11, 18))

    def test_the_shift(self):
        for room, shift in ((200, 0), (1000, 0), (65534, 0), (65535, 0), (65536, 1), (131071, 1), (131072, 2),
                            (262143, 2), (262144, 3)):
            with self.subTest(room):
                self.assertEqual(Options(**{**NEEDED, "room": room}).shift, shift)

    def test_options_with_equal_fields_are_equal(self):
        self.assertTrue(Options(**WHOLE) == Options(**WHOLE))
        self.assertFalse(Options(**WHOLE) != Options(**WHOLE))
        self.assertTrue(Options(**NEEDED) == Options(**NEEDED, ack_delay=0, keep_alive=0, nagle=False, control="reno"))

    def test_options_with_another_field_are_other_ones(self):
        for name, value in dict(mss=101, room=1001, life=21, pace=501, tries=6, min_rto=11, max_rto=201, ack_delay=4,
                                keep_alive=51, nagle=False, control="reno").items():
            with self.subTest(name):
                self.assertFalse(Options(**WHOLE) == Options(**{**WHOLE, name: value}))
                self.assertTrue(Options(**WHOLE) != Options(**{**WHOLE, name: value}))

    def test_options_are_not_equal_to_another_value(self):
        for value in (None, 0, "options", WHOLE, tuple(WHOLE.values())):
            self.assertFalse(Options(**WHOLE) == value)


if __name__ == "__main__":
    unittest.main()
