import unittest

from tests.asking import LEFT, RIGHT, STANDS, asked, behind, last, table, wish


class StandsTest(unittest.TestCase):
    def test_no_wishes(self):
        self.assertEqual(last(STANDS), [0, 0, 0])
        self.assertEqual(last(table(8), LEFT, STANDS), [7, 0, 0])

    def test_none_fulfilled(self):
        self.assertEqual(last(table(8), wish(1, 0), wish(2, 0), STANDS), [0, 2, 2, 0, 1])

    def test_some_fulfilled(self):
        self.assertEqual(
            asked(table(8), wish(2, 0), wish(0, 0), wish(3, 0), wish(7, 0), STANDS, LEFT, STANDS)[5:],
            [[0, 4, 3, 0, 2, 3], [7, 1, 3], [7, 4, 2, 0, 2]],
        )

    def test_none_left(self):
        self.assertEqual(last(table(8), wish(0, 0), wish(1, 0), RIGHT, STANDS), [1, 2, 0])

    def test_it_changes_nothing(self):
        self.assertEqual(
            asked(table(4), wish(1, 0), wish(2, 0), behind(0, 1), STANDS, STANDS, RIGHT, STANDS, STANDS)[4:],
            [[0, 2, 2, 0, 1], [0, 2, 2, 0, 1], [1, 0], [1, 2, 2, 0, 1], [1, 2, 2, 0, 1]],
        )


if __name__ == "__main__":
    unittest.main()
