import unittest

from swapkinds import limits


class Limits(unittest.TestCase):
    def test_constants(self):
        self.assertEqual((limits.MOST_KINDS, limits.MOST_COUNT, limits.MOST_FACTS, limits.MOST_CHANGES),
                         (4, 1000000000000000000000000000000, 12, 6))


if __name__ == "__main__":
    unittest.main()
