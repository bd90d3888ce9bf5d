import unittest

from webreckon import limits


class Limits(unittest.TestCase):
    def test_each_value(self):
        told = {
            "MOST_PLACES": 7, "MOST_TIES": 11, "MOST_LENGTH": 1000000000, "MOST_ROOM": 1000000000000,
            "MOST_HEAP": 1000000, "MOST_DYE": 7, "MOST_REST": 100, "MOST_DOUBTS": 6, "MOST_LIST": 2500,
            "MOST_WALKERS": 200,
        }
        for name, worth in told.items():
            self.assertEqual(getattr(limits, name), worth, name)
            self.assertIs(type(getattr(limits, name)), int, name)
        self.assertEqual({name for name in vars(limits) if name.isupper()}, set(told))


if __name__ == "__main__":
    unittest.main()
