import unittest

from tests.asking import LEFT, OPEN_WISHES, RIGHT, STANDS, asked, behind, last, table, wish


class OpenWishesTest(unittest.TestCase):
    def test_no_wishes(self):
        self.assertEqual(last(OPEN_WISHES), [0])
        self.assertEqual(last(table(8), RIGHT, OPEN_WISHES), [0])

    def test_none_fulfilled(self):
        self.assertEqual(last(table(8), wish(1, 0), wish(2, 0), wish(3, 0), OPEN_WISHES), [3, 0, 1, 2])

    def test_some_fulfilled(self):
        self.assertEqual(
            asked(table(8), wish(1, 0), wish(0, 0), wish(2, 0), wish(7, 0), OPEN_WISHES, RIGHT, OPEN_WISHES)[5:],
            [[3, 0, 2, 3], [1, 1, 0], [2, 2, 3]],
        )

    def test_all_fulfilled(self):
        self.assertEqual(last(table(8), wish(1, 0), wish(0, 0), RIGHT, OPEN_WISHES), [0])

    def test_behind_one_that_is_not_fulfilled(self):
        self.assertEqual(last(table(8), wish(1, 0), wish(2, 0), behind(0, 1), OPEN_WISHES), [1, 1])
        self.assertEqual(last(table(8), wish(1, 0), wish(2, 0), behind(1, 0), OPEN_WISHES), [1, 0])

    def test_behind_one_that_is_fulfilled(self):
        self.assertEqual(last(table(8), wish(0, 0), wish(2, 0), behind(1, 0), OPEN_WISHES), [1, 1])
        self.assertEqual(
            asked(table(8), wish(2, 0), wish(1, 0), behind(0, 1), OPEN_WISHES, RIGHT, OPEN_WISHES)[4:],
            [[1, 1], [1, 1, 1], [1, 0]],
        )

    def test_behind_two_of_which_one_is_fulfilled(self):
        self.assertEqual(
            last(table(8), wish(0, 0), wish(2, 0), wish(3, 0), behind(2, 0), behind(2, 1), OPEN_WISHES), [1, 1]
        )
        self.assertEqual(
            last(table(8), wish(0, 0), wish(2, 0), wish(3, 0), behind(2, 1), behind(2, 0), OPEN_WISHES), [1, 1]
        )

    def test_a_row_each_behind_the_next(self):
        self.assertEqual(
            asked(
                table(8), wish(3, 0), wish(2, 0), wish(1, 0), behind(0, 1), behind(1, 2),
                OPEN_WISHES, RIGHT, OPEN_WISHES, RIGHT, OPEN_WISHES, RIGHT, OPEN_WISHES,
            )[6::2],
            [[1, 2], [1, 1], [1, 0], [0]],
        )

    def test_behind_one_whose_dish_comes_at_the_same_time(self):
        # Both stand right turned by 1; still the other one isn't fulfilled yet.
        self.assertEqual(last(table(8), wish(1, 0), wish(2, 1), behind(0, 1), OPEN_WISHES), [1, 1])

    def test_its_dish_before_its_guest_does_not_make_it_open(self):
        self.assertEqual(last(table(8), wish(1, 0), wish(2, 0), behind(0, 1), RIGHT, OPEN_WISHES), [1, 1])

    def test_it_changes_nothing(self):
        calls = [table(4), wish(1, 0), wish(2, 0), behind(0, 1)]
        self.assertEqual(
            asked(*calls, OPEN_WISHES, OPEN_WISHES, STANDS, RIGHT, OPEN_WISHES, RIGHT, OPEN_WISHES, LEFT)[4:],
            [[1, 1], [1, 1], [0, 2, 2, 0, 1], [1, 0], [1, 1], [2, 1, 1], [1, 0], [1, 1, 0]],
        )


if __name__ == "__main__":
    unittest.main()
