import unittest

from tests.asking import FAR, LEFT, RIGHT, STANDS, asked, last, table, wish

SIX = [wish(guest, 0) for guest in range(6)]


class WishTest(unittest.TestCase):
    def test_fulfilled_at_once_or_not(self):
        self.assertEqual(last(table(5), wish(3, 3)), [0, 1])
        self.assertEqual(last(table(5), wish(3, 2)), [0, 0])

    def test_fulfilled_at_once_where_the_tray_is_turned(self):
        # Turned by 4 the dish 3 stands before (3 + 4) modulo 5.
        self.assertEqual(last(table(5), LEFT, wish(2, 3)), [0, 1])
        self.assertEqual(last(table(5), LEFT, wish(3, 3)), [0, 0])
        self.assertEqual(last(table(5), RIGHT, wish(4, 3)), [0, 1])
        self.assertEqual(last(table(5), RIGHT, wish(2, 3)), [0, 0])

    def test_every_dish_at_every_turn(self):
        for n in range(2, 9):
            for t in range(n):
                for dish in range(n):
                    for guest in range(n):
                        at_once = 1 if guest == (dish + t) % n else 0
                        self.assertEqual(last(table(n), *[RIGHT] * t, wish(guest, dish)), [0, at_once])

    def test_numbers_rise_from_0(self):
        self.assertEqual(asked(table(8), *SIX)[1:], [[0, 1], [1, 0], [2, 0], [3, 0], [4, 0], [5, 0]])

    def test_a_wish_leaves_the_others_as_they_are(self):
        self.assertEqual(last(table(4), wish(1, 0), wish(2, 2), STANDS), [0, 2, 1, 0])

    def test_no_such_guest(self):
        for guest in (4, 5, FAR):
            with self.subTest(guest=guest):
                self.assertEqual(last(table(4), wish(guest, 0)), [-1])
        self.assertEqual(last(table(4), wish(3, 0)), [0, 0])

    def test_no_such_dish(self):
        for dish in (4, 5, FAR):
            with self.subTest(dish=dish):
                self.assertEqual(last(table(4), wish(0, dish)), [-1])
        self.assertEqual(last(table(4), wish(0, 3)), [0, 0])

    def test_the_seventh_is_refused(self):
        self.assertEqual(last(table(8), *SIX, wish(6, 0)), [-5])

    def test_fulfilled_ones_count_among_the_six(self):
        six = [wish(guest, guest) for guest in range(6)]
        self.assertEqual(last(table(8), *six, wish(6, 6)), [-5])

    def test_the_same_again_when_not_fulfilled(self):
        self.assertEqual(last(table(4), wish(1, 0), wish(1, 0)), [-4])
        self.assertEqual(last(table(4), wish(2, 0), wish(1, 0), wish(3, 0), wish(1, 0)), [-4])

    def test_the_same_again_when_fulfilled(self):
        self.assertEqual(last(table(4), wish(1, 1), wish(1, 1)), [-4])
        self.assertEqual(last(table(4), wish(1, 0), RIGHT, wish(1, 0)), [-4])

    def test_the_same_guest_or_the_same_dish_alone_is_no_refusal(self):
        self.assertEqual(
            asked(table(4), wish(1, 0), wish(1, 3), wish(2, 0), wish(2, 3), wish(0, 1))[1:],
            [[0, 0], [1, 0], [2, 0], [3, 0], [4, 0]],
        )

    def test_no_such_guest_or_dish_is_told_ahead_of_six(self):
        self.assertEqual(last(table(8), *SIX, wish(8, 0)), [-1])
        self.assertEqual(last(table(8), *SIX, wish(0, 8)), [-1])

    def test_six_is_told_ahead_of_the_same_again(self):
        self.assertEqual(last(table(8), *SIX, wish(0, 0)), [-5])
        self.assertEqual(last(table(8), *SIX, wish(5, 0)), [-5])

    def test_a_refused_wish_takes_no_number(self):
        self.assertEqual(
            asked(table(4), wish(1, 0), wish(4, 0), wish(1, 0), wish(0, 9), wish(2, 0))[1:],
            [[0, 0], [-1], [-4], [-1], [1, 0]],
        )

    def test_a_refusal_changes_nothing(self):
        for refused, number in ((wish(8, 0), -1), (wish(0, FAR), -1), (wish(1, 0), -4), (wish(0, 0), -4)):
            with self.subTest(refused=refused):
                answered = asked(table(8), *SIX[:4], STANDS, refused, STANDS)
                self.assertEqual(answered[-3:], [[0, 4, 3, 1, 2, 3], [number], [0, 4, 3, 1, 2, 3]])
        answered = asked(table(8), *SIX, STANDS, wish(7, 7), STANDS)
        self.assertEqual(answered[-3:], [[0, 6, 5, 1, 2, 3, 4, 5], [-5], [0, 6, 5, 1, 2, 3, 4, 5]])


if __name__ == "__main__":
    unittest.main()
