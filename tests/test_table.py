import unittest

from tests.asking import FAR, LEFT, RIGHT, STANDS, asked, last, table, wish


class TableTest(unittest.TestCase):
    def test_every_size_is_laid(self):
        for n in range(2, 9):
            with self.subTest(n=n):
                self.assertEqual(
                    asked(table(n), wish(n - 1, 0), wish(0, n - 1), wish(n, 0), wish(0, n)),
                    [[0], [0, 0], [1, 0], [-1], [-1]],
                )

    def test_every_size_is_gone_round_in_as_many_steps(self):
        for n in range(2, 9):
            with self.subTest(n=n):
                rising = [[t % n, 0] for t in range(1, 2 * n + 1)]
                self.assertEqual(asked(table(n), *[RIGHT] * (2 * n))[1:], rising)
                falling = [[-t % n, 0] for t in range(1, 2 * n + 1)]
                self.assertEqual(asked(table(n), *[LEFT] * (2 * n))[1:], falling)

    def test_at_the_beginning_there_are_two_places(self):
        self.assertEqual(
            asked(STANDS, wish(1, 0), wish(2, 0), wish(0, 2), RIGHT, RIGHT),
            [[0, 0, 0], [0, 0], [-1], [-1], [1, 1, 0], [0, 0]],
        )

    def test_other_sizes_are_refused(self):
        for n in (0, 1, 9, 10, FAR):
            with self.subTest(n=n):
                self.assertEqual(last(table(n)), [-1])

    def test_a_refused_table_leaves_all_as_it_was(self):
        for n in (0, 1, 9, FAR):
            with self.subTest(n=n):
                self.assertEqual(
                    asked(table(3), wish(2, 0), wish(0, 0), RIGHT, STANDS, table(n), STANDS, RIGHT, RIGHT),
                    [[0], [0, 0], [1, 1], [1, 0], [1, 2, 1, 0], [-1], [1, 2, 1, 0], [2, 1, 0], [0, 0]],
                )

    def test_a_refused_table_at_the_beginning_leaves_two_places(self):
        self.assertEqual(asked(table(9), RIGHT, RIGHT, wish(2, 0)), [[-1], [1, 0], [0, 0], [-1]])

    def test_a_table_begins_anew(self):
        for n in (2, 5, 8):
            with self.subTest(n=n):
                self.assertEqual(
                    asked(table(5), wish(1, 0), wish(3, 0), RIGHT, STANDS, table(n), STANDS, wish(1, 0), STANDS),
                    [[0], [0, 0], [1, 0], [1, 1, 0], [1, 2, 1, 1], [0], [0, 0, 0], [0, 0], [0, 1, 1, 0]],
                )

    def test_a_table_forgets_what_was_behind_what(self):
        answered = asked(
            table(4), wish(1, 0), wish(2, 0), [2, 0, 1],
            table(4), wish(1, 0), wish(2, 0), [2, 1, 0], RIGHT, RIGHT,
        )
        self.assertEqual(answered[-3:], [[0], [1, 1, 0], [2, 1, 1]])


if __name__ == "__main__":
    unittest.main()
