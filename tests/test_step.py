import itertools
import unittest

from tests.asking import FAR, LEFT, RIGHT, STANDS, asked, behind, last, step, table, wish


class StepTest(unittest.TestCase):
    def test_to_the_right_and_to_the_left(self):
        self.assertEqual(asked(table(5), RIGHT, RIGHT, LEFT)[1:], [[1, 0], [2, 0], [1, 0]])

    def test_round_the_end_with_two_places(self):
        self.assertEqual(asked(RIGHT, RIGHT, LEFT, LEFT), [[1, 0], [0, 0], [1, 0], [0, 0]])

    def test_round_the_end_with_eight_places(self):
        self.assertEqual(asked(table(8), LEFT, RIGHT, LEFT, LEFT)[1:], [[7, 0], [0, 0], [7, 0], [6, 0]])
        self.assertEqual(asked(table(8), *[RIGHT] * 8)[7:], [[7, 0], [0, 0]])

    def test_to_the_right_the_dish_comes_to_the_next_place(self):
        self.assertEqual(asked(table(8), wish(1, 0), wish(7, 0), RIGHT)[3], [1, 1, 0])
        self.assertEqual(asked(table(8), wish(1, 0), wish(7, 0), LEFT)[3], [7, 1, 1])

    def test_past_the_last_place(self):
        self.assertEqual(last(table(8), wish(0, 7), RIGHT), [1, 1, 0])
        self.assertEqual(last(table(8), wish(7, 0), LEFT), [7, 1, 0])
        self.assertEqual(last(wish(0, 1), RIGHT), [1, 1, 0])
        self.assertEqual(last(wish(1, 0), LEFT), [1, 1, 0])

    def test_several_at_once(self):
        self.assertEqual(
            asked(table(8), wish(1, 0), wish(2, 0), wish(5, 4), wish(0, 7), RIGHT, RIGHT)[5:],
            [[1, 3, 0, 2, 3], [2, 1, 1]],
        )

    def test_a_fulfilled_wish_is_not_told_again(self):
        self.assertEqual(asked(wish(1, 0), RIGHT, RIGHT, RIGHT), [[0, 0], [1, 1, 0], [0, 0], [1, 0]])

    def test_one_because_another_has_been_in_whatever_order(self):
        # All six stand right turned by 1; each has to be behind the next of the row.
        six = [wish(guest + 1, guest) for guest in range(6)]
        for row in itertools.permutations(range(6)):
            chain = [behind(row[k], row[k + 1]) for k in range(5)]
            self.assertEqual(last(table(8), *six, *chain, RIGHT), [1, 6, 0, 1, 2, 3, 4, 5])
            self.assertEqual(last(table(8), *six, *chain[::-1], RIGHT), [1, 6, 0, 1, 2, 3, 4, 5])

    def test_a_row_that_is_cut_by_one_that_stands_elsewhere(self):
        # Wish 2 stands right turned by 2, the others by 1.
        wishes = [wish(1, 0), wish(2, 1), wish(2, 0), wish(3, 2), wish(4, 3)]
        for row in itertools.permutations(range(5)):
            chain = [behind(row[k], row[k + 1]) for k in range(4)]
            cut = row.index(2)
            first = sorted(row[cut + 1:])
            rest = sorted(row[:cut])
            self.assertEqual(
                asked(table(8), *wishes, *chain, RIGHT, STANDS, RIGHT, LEFT, STANDS)[10:],
                [
                    [1, len(first), *first],
                    [1, 5, 5 - len(first), *sorted(row[:cut + 1])],
                    [2, 1, 2],
                    [1, len(rest), *rest],
                    [1, 5, 0],
                ],
            )

    def test_it_waits_for_its_dish_though_the_other_has_been(self):
        # Wish 0 is passed by once, while wish 1 is not fulfilled yet.
        self.assertEqual(
            asked(table(8), wish(1, 0), wish(3, 0), behind(0, 1), RIGHT, RIGHT, RIGHT, LEFT, LEFT)[4:],
            [[1, 0], [2, 0], [3, 1, 1], [2, 0], [1, 1, 0]],
        )

    def test_a_wish_that_came_later_lets_one_be(self):
        # Wish 0 has its dish before it; wish 1 comes, is fulfilled at once, and lets nothing else be.
        self.assertEqual(
            asked(table(4), wish(1, 0), wish(2, 0), behind(0, 1), RIGHT, wish(2, 1), STANDS)[4:],
            [[1, 0], [2, 1], [1, 3, 2, 0, 1]],
        )

    def test_neither_right_nor_left(self):
        for way in (2, 3, FAR):
            with self.subTest(way=way):
                self.assertEqual(last(step(way)), [-1])

    def test_a_refusal_changes_nothing(self):
        for way in (2, FAR):
            with self.subTest(way=way):
                self.assertEqual(
                    asked(table(4), wish(2, 0), wish(3, 0), LEFT, STANDS, step(way), STANDS, LEFT)[3:],
                    [[3, 1, 1], [3, 2, 1, 0], [-1], [3, 2, 1, 0], [2, 1, 0]],
                )


if __name__ == "__main__":
    unittest.main()
