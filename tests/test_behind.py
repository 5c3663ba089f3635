import itertools
import unittest

from tests.asking import FAR, LEFT, RIGHT, STANDS, asked, behind, last, table, wish

# None is fulfilled at the beginning: wish k is, where nothing holds it, turned by k + 1.
FIVE = [table(8)] + [wish(guest, 0) for guest in range(1, 6)]
# Wish 0 is fulfilled, wish 1 and wish 2 are not.
ONE_HAD = [table(8), wish(0, 0), wish(1, 0), wish(2, 0)]


class BehindTest(unittest.TestCase):
    def test_it_is_not_fulfilled_before_the_other(self):
        self.assertEqual(
            asked(*FIVE, behind(0, 1), RIGHT, RIGHT, LEFT, STANDS)[6:],
            [[0], [1, 0], [2, 1, 1], [1, 1, 0], [1, 5, 3, 2, 3, 4]],
        )

    def test_it_holds_back_the_first_and_not_the_other(self):
        self.assertEqual(asked(*FIVE, behind(1, 0), RIGHT, RIGHT)[6:], [[0], [1, 1, 0], [2, 1, 1]])

    def test_it_has_to_be_behind_all_of_several(self):
        self.assertEqual(
            asked(*FIVE, behind(0, 1), behind(0, 2), RIGHT, RIGHT, LEFT, RIGHT, RIGHT, LEFT, LEFT)[6:],
            [[0], [0], [1, 0], [2, 1, 1], [1, 0], [2, 0], [3, 1, 2], [2, 0], [1, 1, 0]],
        )

    def test_behind_one_that_is_fulfilled(self):
        self.assertEqual(asked(*ONE_HAD, behind(1, 0), RIGHT)[4:], [[0], [1, 1, 1]])

    def test_it_fulfils_nothing(self):
        self.assertEqual(
            asked(*FIVE, behind(0, 1), RIGHT, behind(0, 2), behind(3, 0), STANDS)[6:],
            [[0], [1, 0], [0], [0], [1, 5, 5, 0, 1, 2, 3, 4]],
        )

    def test_no_such_wish(self):
        for number in (5, 6, FAR):
            with self.subTest(number=number):
                self.assertEqual(last(*FIVE, behind(number, 0)), [-2])
                self.assertEqual(last(*FIVE, behind(0, number)), [-2])
                self.assertEqual(last(*FIVE, behind(number, FAR - 1)), [-2])
        self.assertEqual(last(*FIVE, behind(4, 0)), [0])
        self.assertEqual(last(*FIVE, behind(0, 4)), [0])
        self.assertEqual(last(behind(0, 1)), [-2])

    def test_they_are_one(self):
        for one in range(5):
            self.assertEqual(last(*FIVE, behind(one, one)), [-1])

    def test_the_first_is_fulfilled(self):
        self.assertEqual(last(*ONE_HAD, behind(0, 1)), [-3])
        self.assertEqual(last(*FIVE, RIGHT, behind(0, 1)), [-3])

    def test_it_has_to_be_already(self):
        self.assertEqual(last(*FIVE, behind(0, 1), behind(0, 1)), [-4])
        self.assertEqual(last(*FIVE, behind(0, 1), behind(0, 2), behind(0, 1)), [-4])

    def test_it_has_to_be_already_though_the_other_is_fulfilled(self):
        self.assertEqual(last(*FIVE, behind(1, 0), RIGHT, behind(1, 0)), [-4])

    def test_already_means_told_straight(self):
        self.assertEqual(
            asked(*FIVE, behind(0, 1), behind(1, 2), behind(0, 2), behind(0, 2))[6:], [[0], [0], [0], [-4]]
        )

    def test_a_circle_straight(self):
        self.assertEqual(last(*FIVE, behind(0, 1), behind(1, 0)), [-6])
        self.assertEqual(last(*FIVE, behind(1, 0), behind(0, 1)), [-6])

    def test_a_circle_by_others_between_in_whatever_order(self):
        for row in itertools.permutations(range(5)):
            chain = [behind(row[k], row[k + 1]) for k in range(4)]
            for end in range(1, 5):
                self.assertEqual(last(*FIVE, *chain, behind(row[end], row[0])), [-6])

    def test_a_circle_by_one_of_two_ways(self):
        ways = [behind(0, 1), behind(0, 2), behind(2, 3)]
        self.assertEqual(last(*FIVE, *ways, behind(3, 0)), [-6])
        self.assertEqual(last(*FIVE, *ways, behind(1, 0)), [-6])
        self.assertEqual(last(*FIVE, *ways, behind(3, 1)), [0])
        self.assertEqual(last(*FIVE, *ways, behind(1, 3)), [0])
        self.assertEqual(last(*FIVE, *ways, behind(1, 3), behind(3, 0)), [-6])

    def test_most_that_can_be_told(self):
        # Each behind each of a higher number: fifteen of them, and each the other way round a circle.
        pairs = list(itertools.combinations(range(6), 2))
        six = [wish(guest, 0) for guest in range(1, 7)]
        told = [behind(one, other) for one, other in pairs]
        for one, other in pairs:
            answered = asked(table(8), *six, *told, behind(other, one))
            self.assertEqual(answered[7:], [[0]] * 15 + [[-6]])

    def test_no_such_wish_is_told_first(self):
        self.assertEqual(last(*FIVE, behind(7, 7)), [-2])
        self.assertEqual(last(*ONE_HAD, behind(0, 7)), [-2])

    def test_one_and_the_same_is_told_ahead_of_fulfilled(self):
        self.assertEqual(last(*ONE_HAD, behind(0, 0)), [-1])

    def test_fulfilled_is_told_ahead_of_already(self):
        self.assertEqual(last(*FIVE, behind(1, 0), RIGHT, RIGHT, behind(1, 0)), [-3])

    def test_fulfilled_is_told_ahead_of_a_circle(self):
        self.assertEqual(last(*FIVE, behind(1, 0), RIGHT, behind(0, 1)), [-3])

    def test_a_refusal_changes_nothing(self):
        held = [*FIVE, behind(1, 2), behind(2, 3), RIGHT]
        refusals = (
            (behind(5, 1), -2), (behind(1, FAR), -2), (behind(4, 4), -1),
            (behind(0, 4), -3), (behind(1, 2), -4), (behind(2, 1), -6), (behind(3, 1), -6),
        )
        on = [RIGHT, RIGHT, RIGHT, RIGHT, LEFT, LEFT, LEFT]
        without = asked(*held, STANDS, *on)[9:]
        for refused, number in refusals:
            with self.subTest(refused=refused):
                answered = asked(*held, STANDS, refused, STANDS, *on)[9:]
                self.assertEqual(answered[:3], [[1, 5, 4, 1, 2, 3, 4], [number], [1, 5, 4, 1, 2, 3, 4]])
                self.assertEqual(answered[3:], without[1:])
        self.assertEqual(without[1:], [[2, 0], [3, 0], [4, 1, 3], [5, 1, 4], [4, 0], [3, 1, 2], [2, 1, 1]])


if __name__ == "__main__":
    unittest.main()
