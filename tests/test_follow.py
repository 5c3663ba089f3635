import unittest

from tests.asking import (
    FAR, FEWEST, LEAST, LEFT, OPEN_WISHES, RIGHT, STANDS, asked, behind, follow, last, soon, table, wish,
)

# The plan is 0, 0, 0, 1, 1: wish 1 with the tray turned by 3, then wish 0 with it turned by 1.
BACK = [table(8), wish(1, 0), wish(3, 0), behind(0, 1)]


class FollowTest(unittest.TestCase):
    def test_no_wishes(self):
        for n in (0, 1, 100):
            with self.subTest(n=n):
                self.assertEqual(asked(table(8), LEFT, follow(n), STANDS)[2:], [[0, 0], [7, 0, 0]])

    def test_all_fulfilled(self):
        self.assertEqual(asked(table(8), wish(1, 0), RIGHT, follow(100), STANDS)[3:], [[0, 0], [1, 1, 0]])

    def test_no_step(self):
        self.assertEqual(asked(*BACK, follow(0), STANDS)[4:], [[0, 2], [0, 2, 2, 0, 1]])

    def test_one_step(self):
        self.assertEqual(asked(*BACK, follow(1), STANDS)[4:], [[1, 2], [1, 2, 2, 0, 1]])

    def test_fewer_than_the_plan_has(self):
        self.assertEqual(asked(*BACK, follow(2), STANDS)[4:], [[2, 2], [2, 2, 2, 0, 1]])
        self.assertEqual(asked(*BACK, follow(3), STANDS)[4:], [[3, 1], [3, 2, 1, 0]])
        self.assertEqual(asked(*BACK, follow(4), STANDS)[4:], [[4, 1], [2, 2, 1, 0]])

    def test_as_many_or_more(self):
        for n in (5, 6, 99, 100):
            with self.subTest(n=n):
                self.assertEqual(asked(*BACK, follow(n), STANDS)[4:], [[5, 0], [1, 2, 0]])

    def test_too_many(self):
        for n in (101, 102, FAR):
            with self.subTest(n=n):
                self.assertEqual(last(*BACK, follow(n)), [-1])
                self.assertEqual(last(follow(n)), [-1])

    def test_a_refusal_changes_nothing(self):
        for n in (101, FAR):
            with self.subTest(n=n):
                self.assertEqual(
                    asked(*BACK, RIGHT, follow(n), STANDS, OPEN_WISHES, soon(0), FEWEST, LEAST, RIGHT)[5:],
                    [[-1], [1, 2, 2, 0, 1], [1, 1], [0], [4, 1, 0, 0, 1, 1], [6], [2, 0]],
                )

    def test_it_is_the_first_plan_that_is_followed(self):
        self.assertEqual(asked(table(8), wish(4, 0), follow(1), STANDS)[2:], [[1, 1], [1, 1, 1, 0]])
        self.assertEqual(
            asked(table(8), wish(1, 0), wish(7, 0), follow(1), STANDS, follow(1), STANDS)[3:],
            [[1, 1], [1, 2, 1, 1], [1, 1], [0, 2, 1, 1]],
        )

    def test_it_is_not_the_plan_with_the_least_waiting(self):
        six = [wish(2, 0)] + [wish((dish + 5) % 8, dish) for dish in range(5)]
        self.assertEqual(
            asked(table(8), *six, follow(2), STANDS, LEAST, follow(100), STANDS)[7:],
            [[2, 5], [2, 6, 5, 1, 2, 3, 4, 5], [15], [3, 0], [5, 6, 0]],
        )

    def test_to_the_left_too(self):
        self.assertEqual(asked(table(8), wish(5, 0), follow(2), STANDS)[2:], [[2, 1], [6, 1, 1, 0]])

    def test_what_is_passed_on_the_way_is_fulfilled(self):
        self.assertEqual(
            asked(table(8), wish(1, 0), wish(2, 0), wish(3, 0), follow(2), STANDS)[4:], [[2, 1], [2, 3, 1, 2]]
        )

    def test_several_fulfilled_one_because_of_another(self):
        calls = [table(8), wish(2, 0), wish(3, 1), wish(4, 2), behind(0, 1), behind(1, 2)]
        self.assertEqual(asked(*calls, follow(100), STANDS)[6:], [[2, 0], [2, 3, 0]])

    def test_all_calls_behind_it_speak_of_how_things_stand_then(self):
        self.assertEqual(
            asked(*BACK, follow(3), OPEN_WISHES, soon(0), soon(1), FEWEST, LEAST, LEFT, LEFT, STANDS)[4:],
            [[3, 1], [1, 0], [2], [-3], [2, 1, 1, 1], [2], [2, 0], [1, 1, 0], [1, 2, 0]],
        )

    def test_behind_it_wishes_are_taken_and_put_behind(self):
        # Turned by 3 then; on to 6 for wish 3, and on to 1 for wish 0, which is behind it.
        self.assertEqual(
            asked(*BACK, follow(3), wish(3, 0), wish(4, 1), wish(6, 0), behind(0, 3), behind(1, 0), FEWEST)[4:],
            [[3, 1], [-4], [2, 1], [3, 0], [0], [-3], [6, 1, 0, 0, 0, 0, 0, 0]],
        )

    def test_step_by_step_as_all_at_once(self):
        self.assertEqual(
            asked(*BACK, follow(1), follow(1), follow(1), follow(1), follow(1), follow(1), STANDS)[4:],
            [[1, 2], [1, 2], [1, 1], [1, 1], [1, 0], [0, 0], [1, 2, 0]],
        )


if __name__ == "__main__":
    unittest.main()
