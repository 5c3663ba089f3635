import unittest

from tests.asking import FEWEST, LEFT, RIGHT, STANDS, asked, behind, last, table, wish


class FewestTest(unittest.TestCase):
    def test_no_wishes(self):
        self.assertEqual(last(FEWEST), [0, 1])
        self.assertEqual(last(table(8), LEFT, FEWEST), [0, 1])

    def test_all_fulfilled(self):
        self.assertEqual(last(table(8), wish(0, 0), FEWEST), [0, 1])
        self.assertEqual(last(table(8), wish(1, 0), wish(0, 0), RIGHT, FEWEST), [0, 1])
        self.assertEqual(last(table(8), wish(1, 0), wish(0, 0), RIGHT, LEFT, LEFT, FEWEST), [0, 1])

    def test_one_wish_to_the_right_or_to_the_left(self):
        self.assertEqual(last(table(8), wish(3, 0), FEWEST), [3, 1, 0, 0, 0])
        self.assertEqual(last(table(8), wish(5, 0), FEWEST), [3, 1, 1, 1, 1])
        self.assertEqual(last(table(3), wish(1, 0), FEWEST), [1, 1, 0])
        self.assertEqual(last(table(3), wish(0, 1), FEWEST), [1, 1, 1])

    def test_one_wish_whose_two_ways_are_as_short(self):
        self.assertEqual(last(table(8), wish(4, 0), FEWEST), [4, 2, 0, 0, 0, 0])
        self.assertEqual(last(table(4), wish(0, 2), FEWEST), [2, 2, 0, 0])

    def test_a_step_made_breaks_the_tie(self):
        self.assertEqual(last(table(8), wish(4, 0), LEFT, FEWEST), [3, 1, 1, 1, 1])
        self.assertEqual(last(table(8), wish(4, 0), RIGHT, FEWEST), [3, 1, 0, 0, 0])

    def test_both_sides_as_near(self):
        # To the right first, or to the left first: they end with the tray turned otherwise.
        self.assertEqual(last(table(8), wish(1, 0), wish(7, 0), FEWEST), [3, 2, 0, 1, 1])
        self.assertEqual(last(table(8), wish(7, 0), wish(1, 0), FEWEST), [3, 2, 0, 1, 1])

    def test_the_nearer_side_first(self):
        self.assertEqual(last(table(8), wish(2, 0), wish(7, 0), FEWEST), [4, 1, 1, 0, 0, 0])
        self.assertEqual(last(table(8), wish(1, 0), wish(6, 0), FEWEST), [4, 1, 0, 1, 1, 1])

    def test_round_rather_than_back(self):
        self.assertEqual(last(table(8), wish(3, 0), wish(5, 0), FEWEST), [5, 2, 0, 0, 0, 0, 0])
        self.assertEqual(last(table(8), wish(2, 0), wish(5, 0), FEWEST), [5, 1, 0, 0, 0, 0, 0])

    def test_round_and_back_as_short(self):
        # Turned by 1, then 4 of 6: on to the right, or back to the left; by the left first it is 5.
        self.assertEqual(last(table(6), wish(1, 0), wish(4, 0), FEWEST), [4, 2, 0, 0, 0, 0])

    def test_two_places_each_row_by_itself(self):
        self.assertEqual(last(wish(1, 0), FEWEST), [1, 2, 0])
        self.assertEqual(last(wish(1, 0), wish(0, 1), behind(0, 1), FEWEST), [1, 2, 0])
        self.assertEqual(last(RIGHT, wish(0, 0), wish(1, 1), FEWEST), [1, 2, 0])

    def test_plans_that_come_together_again_are_counted_each(self):
        # Wish 1, with the tray turned by 0, is behind wish 0, with it turned by 2 of 4: two ways there, two back.
        calls = [table(4), RIGHT, wish(2, 0), wish(0, 0), behind(1, 0), LEFT]
        self.assertEqual(asked(*calls, FEWEST)[5:], [[0, 0], [4, 4, 0, 0, 0, 0]])

    def test_passed_by_and_come_back_to(self):
        self.assertEqual(last(table(8), wish(1, 0), wish(3, 0), behind(0, 1), FEWEST), [5, 1, 0, 0, 0, 1, 1])
        self.assertEqual(last(table(8), wish(7, 0), wish(5, 0), behind(0, 1), FEWEST), [5, 1, 1, 1, 1, 0, 0])

    def test_behind_the_other_way_round_it_is_on_the_way(self):
        self.assertEqual(last(table(8), wish(1, 0), wish(3, 0), behind(1, 0), FEWEST), [3, 1, 0, 0, 0])

    def test_two_ways_there_and_one_back(self):
        # Turned by 2 of 4 first, then by 1.
        self.assertEqual(last(table(4), wish(1, 0), wish(2, 0), behind(0, 1), FEWEST), [3, 2, 0, 0, 1])
        # Turned by 2 of 4 first, then by 3.
        self.assertEqual(last(table(4), wish(3, 0), wish(2, 0), behind(0, 1), FEWEST), [3, 2, 0, 0, 0])

    def test_behind_one_whose_dish_comes_at_the_same_time(self):
        self.assertEqual(last(table(8), wish(2, 0), wish(3, 1), behind(0, 1), FEWEST), [2, 1, 0, 0])

    def test_behind_one_that_is_fulfilled_already(self):
        self.assertEqual(last(table(8), wish(0, 0), wish(2, 0), behind(1, 0), FEWEST), [2, 1, 0, 0])

    def test_its_dish_is_before_it_already(self):
        # Turned by 1 wish 0 waits for wish 1 alone.
        self.assertEqual(
            asked(table(8), wish(1, 0), wish(3, 0), behind(0, 1), RIGHT, FEWEST)[4:], [[1, 0], [4, 1, 0, 0, 1, 1]]
        )

    def test_six_wishes_at_a_table_of_eight(self):
        # The guests who want of dish 0: what is left out says whether to turn round or to turn back.
        told = {
            (1, 2, 3, 4, 5, 6): [6, 1, 0, 0, 0, 0, 0, 0],
            (2, 3, 4, 5, 6, 7): [6, 1, 1, 1, 1, 1, 1, 1],
            (1, 2, 3, 4, 5, 7): [7, 3, 0, 0, 0, 0, 0, 0, 0],
            (1, 2, 3, 5, 6, 7): [7, 2, 0, 0, 0, 0, 0, 0, 0],
        }
        for guests, answer in told.items():
            with self.subTest(guests=guests):
                self.assertEqual(last(table(8), *[wish(guest, 0) for guest in guests], FEWEST), answer)

    def test_six_wishes_in_two_rows(self):
        # Turned by 2, 7 and 2 again; and by 1, 6 and 1 again, each row in its order:
        # ten steps to the right, or two to the right, four back and four to the right again.
        six = [wish(2, 0), wish(7, 0), wish(3, 1), wish(1, 0), wish(6, 0), wish(2, 1)]
        rows = [behind(1, 0), behind(2, 1), behind(4, 3), behind(5, 4)]
        self.assertEqual(last(table(8), *six, *rows, FEWEST), [10, 2] + [0] * 10)

    def test_the_longest_way(self):
        # Turned by 4 and by 0 in turn, each behind the one before: four steps for each, and two ways.
        six = [wish(4, 0), wish(0, 0), wish(5, 1), wish(1, 1), wish(6, 2), wish(2, 2)]
        chain = [behind(k + 1, k) for k in range(5)]
        self.assertEqual(
            asked(table(8), RIGHT, *six, *chain, LEFT, FEWEST)[13:], [[0, 0], [24, 64] + [0] * 24]
        )

    def test_it_changes_nothing(self):
        calls = [table(8), wish(1, 0), wish(3, 0), wish(0, 0), behind(0, 1), RIGHT]
        self.assertEqual(
            asked(*calls, STANDS, FEWEST, FEWEST, STANDS, RIGHT, RIGHT, LEFT, LEFT)[6:],
            [
                [1, 3, 2, 0, 1],
                [4, 1, 0, 0, 1, 1],
                [4, 1, 0, 0, 1, 1],
                [1, 3, 2, 0, 1],
                [2, 0],
                [3, 1, 1],
                [2, 0],
                [1, 1, 0],
            ],
        )


if __name__ == "__main__":
    unittest.main()
