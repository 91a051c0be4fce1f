import unittest

from rowfolds import bounds


class BoundsTest(unittest.TestCase):
    def test_values(self):
        values = {
            "MAX_PLACES": 12,
            "MAX_COUNT": 60,
            "MAX_ENTRIES": 20,
            "MAX_LENGTH": 4,
            "EDITS": 60,
            "BATCH": 20,
        }
        for name, value in values.items():
            with self.subTest(name):
                self.assertEqual(getattr(bounds, name), value)
                self.assertIs(type(getattr(bounds, name)), int)


if __name__ == "__main__":
    unittest.main()
