import unittest

from throughline.records.findings import Finding


class FindingTest(unittest.TestCase):
    def test_fields(self):
        finding = Finding(3, "the tick goes back")
        self.assertEqual((finding.index, finding.problem), (3, "the tick goes back"))

    def test_equality(self):
        self.assertTrue(Finding(3, "a") == Finding(3, "a"))
        self.assertFalse(Finding(3, "a") != Finding(3, "a"))
        for other in (Finding(2, "a"), Finding(3, "b"), Finding(0, "")):
            self.assertFalse(Finding(3, "a") == other)
            self.assertTrue(Finding(3, "a") != other)

    def test_it_equals_nothing_else(self):
        for other in (None, 3, "a", (3, "a"), [3, "a"], {"index": 3, "problem": "a"}):
            self.assertFalse(Finding(3, "a") == other)


if __name__ == "__main__":
    unittest.main()
