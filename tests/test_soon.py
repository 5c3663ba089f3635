import unittest

from tests.asking import FAR, LEFT, RIGHT, STANDS, asked, behind, last, soon, table, wish


class SoonTest(unittest.TestCase):
    def test_to_the_right(self):
        for away in (1, 2, 3):
            with self.subTest(away=away):
                self.assertEqual(last(table(8), wish(away, 0), soon(0)), [away])
                self.assertEqual(last(table(7), wish(away, 0), soon(0)), [away])

    def test_to_the_left(self):
        for away in (1, 2, 3):
            with self.subTest(away=away):
                self.assertEqual(last(table(8), wish(8 - away, 0), soon(0)), [away])
                self.assertEqual(last(table(7), wish(7 - away, 0), soon(0)), [away])

    def test_both_as_short(self):
        for n in (2, 4, 6, 8):
            with self.subTest(n=n):
                self.assertEqual(last(table(n), wish(n // 2, 0), soon(0)), [n // 2])
                self.assertEqual(last(table(n), wish(0, n // 2), soon(0)), [n // 2])

    def test_three_places(self):
        self.assertEqual(asked(table(3), wish(1, 0), wish(2, 0), soon(0), soon(1))[3:], [[1], [1]])

    def test_past_the_last_place(self):
        self.assertEqual(last(table(8), wish(0, 7), soon(0)), [1])
        self.assertEqual(last(table(8), wish(1, 6), soon(0)), [3])
        self.assertEqual(last(table(8), wish(6, 1), soon(0)), [3])

    def test_as_the_tray_is_turned(self):
        for way in (RIGHT, LEFT):
            with self.subTest(way=way):
                self.assertEqual(
                    asked(table(8), wish(4, 0), soon(0), way, soon(0), way, soon(0), way, soon(0), way, soon(0))[2::2],
                    [[4], [3], [2], [1], [-3]],
                )

    def test_turned_away_from_the_guest(self):
        self.assertEqual(
            asked(table(8), wish(2, 0), soon(0), LEFT, soon(0), LEFT, soon(0), LEFT, soon(0), LEFT, soon(0))[2::2],
            [[2], [3], [4], [3], [2]],
        )

    def test_whatever_it_has_to_be_behind(self):
        # Wish 0 is behind wish 1, which is 4 steps away.
        self.assertEqual(
            asked(table(8), wish(1, 0), wish(4, 0), behind(0, 1), soon(0), soon(1), RIGHT, soon(0), RIGHT, soon(0))[4:],
            [[1], [4], [1, 0], [0], [2, 0], [1]],
        )

    def test_no_step_only_of_one_that_has_to_be_behind_others(self):
        self.assertEqual(last(table(8), wish(1, 0), wish(4, 0), behind(0, 1), RIGHT, soon(0)), [0])
        # Behind nothing it would be fulfilled then.
        self.assertEqual(last(table(8), wish(1, 0), wish(4, 0), RIGHT, soon(0)), [-3])

    def test_no_such_wish(self):
        for one in (0, 1, FAR):
            with self.subTest(one=one):
                self.assertEqual(last(soon(one)), [-2])
        for one in (2, 3, 6, FAR):
            with self.subTest(one=one):
                self.assertEqual(last(table(8), wish(1, 0), wish(2, 0), soon(one)), [-2])

    def test_the_sixth_wish_and_none_behind_it(self):
        six = [wish(guest, 0) for guest in range(1, 7)]
        self.assertEqual(asked(table(8), *six, soon(5), soon(6))[7:], [[2], [-2]])

    def test_no_wish_of_the_table_before(self):
        self.assertEqual(asked(table(8), wish(1, 0), soon(0), table(8), soon(0))[2:], [[1], [0], [-2]])

    def test_fulfilled(self):
        self.assertEqual(last(table(8), wish(0, 0), soon(0)), [-3])
        self.assertEqual(asked(table(8), wish(1, 0), wish(3, 0), RIGHT, soon(0), soon(1))[4:], [[-3], [2]])
        # Fulfilled it stays, wherever the tray is turned.
        self.assertEqual(last(table(8), wish(1, 0), RIGHT, RIGHT, soon(0)), [-3])

    def test_neither_an_answer_nor_a_refusal_changes_anything(self):
        calls = [table(8), wish(2, 0), wish(3, 0), wish(0, 0), behind(0, 1), RIGHT]
        self.assertEqual(
            asked(*calls, soon(0), soon(1), soon(2), soon(3), soon(FAR), STANDS, RIGHT, RIGHT, LEFT)[6:],
            [[1], [2], [-3], [-2], [-2], [1, 3, 2, 0, 1], [2, 0], [3, 1, 1], [2, 1, 0]],
        )


if __name__ == "__main__":
    unittest.main()
