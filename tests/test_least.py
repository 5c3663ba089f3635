import unittest

from tests.asking import FEWEST, LEAST, LEFT, RIGHT, STANDS, asked, behind, last, table, wish


class LeastTest(unittest.TestCase):
    def test_no_wishes(self):
        self.assertEqual(last(LEAST), [0])
        self.assertEqual(last(table(8), RIGHT, LEAST), [0])

    def test_all_fulfilled(self):
        self.assertEqual(last(table(8), wish(0, 0), LEAST), [0])
        self.assertEqual(last(table(8), wish(0, 0), wish(1, 0), RIGHT, LEFT, LEAST), [0])

    def test_one_wish(self):
        self.assertEqual(last(wish(1, 0), LEAST), [1])
        self.assertEqual(last(table(8), wish(3, 0), LEAST), [3])
        self.assertEqual(last(table(8), wish(4, 0), LEAST), [4])
        self.assertEqual(last(table(8), wish(6, 0), LEAST), [2])

    def test_a_fulfilled_wish_waits_no_more(self):
        self.assertEqual(last(table(8), wish(0, 0), wish(3, 0), LEAST), [3])
        # Both wait one step, then one of them two more.
        self.assertEqual(last(table(8), wish(1, 0), wish(3, 0), LEAST), [4])

    def test_what_was_waited_before_does_not_count(self):
        self.assertEqual(
            asked(table(8), wish(1, 0), wish(3, 0), LEAST, RIGHT, LEAST, RIGHT, LEAST, RIGHT, LEAST)[3::2],
            [[4], [2], [1], [0]],
        )

    def test_both_sides_as_near(self):
        self.assertEqual(last(table(8), wish(1, 0), wish(7, 0), LEAST), [4])

    def test_several_fulfilled_in_one_step(self):
        self.assertEqual(last(table(8), wish(1, 0), wish(2, 1), wish(3, 2), LEAST), [3])
        self.assertEqual(last(table(8), wish(2, 0), wish(3, 1), wish(3, 0), LEAST), [7])
        # One because another one has been.
        self.assertEqual(last(table(8), wish(2, 0), wish(3, 1), wish(4, 2), behind(0, 1), behind(1, 2), LEAST), [6])

    def test_the_fewest_steps_are_not_the_least_waiting(self):
        # One wish with the tray turned by 2, five with it turned by 5: five steps to the right let them
        # wait 2 * 6 + 3 * 5, six to the left 3 * 6 + 3 * 1.
        six = [wish(2, 0)] + [wish((dish + 5) % 8, dish) for dish in range(5)]
        self.assertEqual(
            asked(table(8), *six, FEWEST, LEAST)[7:], [[5, 1, 0, 0, 0, 0, 0], [21]]
        )

    def test_the_same_turned_to_the_other_side(self):
        six = [wish(6, 0)] + [wish((dish + 3) % 8, dish) for dish in range(5)]
        self.assertEqual(
            asked(table(8), *six, FEWEST, LEAST)[7:], [[5, 1, 1, 1, 1, 1, 1], [21]]
        )

    def test_a_wish_that_is_passed_by(self):
        # Both wait three steps, wish 0 two more on the way back.
        self.assertEqual(last(table(8), wish(1, 0), wish(3, 0), behind(0, 1), LEAST), [8])

    def test_its_dish_is_before_it_already(self):
        self.assertEqual(last(table(8), wish(1, 0), wish(3, 0), behind(0, 1), RIGHT, LEAST), [6])

    def test_the_most_that_six_wait(self):
        # Turned by 4 and by 0 in turn, each behind the one before: four steps for each.
        six = [wish(4, 0), wish(0, 0), wish(5, 1), wish(1, 1), wish(6, 2), wish(2, 2)]
        chain = [behind(k + 1, k) for k in range(5)]
        self.assertEqual(last(table(8), RIGHT, *six, *chain, LEFT, LEAST), [4 * (6 + 5 + 4 + 3 + 2 + 1)])

    def test_it_changes_nothing(self):
        calls = [table(8), wish(1, 0), wish(3, 0), wish(0, 0), behind(0, 1), RIGHT]
        self.assertEqual(
            asked(*calls, STANDS, LEAST, LEAST, STANDS, RIGHT, RIGHT, LEFT, LEFT)[6:],
            [[1, 3, 2, 0, 1], [6], [6], [1, 3, 2, 0, 1], [2, 0], [3, 1, 1], [2, 0], [1, 1, 0]],
        )


if __name__ == "__main__":
    unittest.main()
