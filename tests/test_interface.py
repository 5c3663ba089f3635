import unittest

from tests.asking import FAR
from turningtray.dishes import answers

# table 8; wishes 0 to 2; 1 behind 0; a refused behind; steps; a refused step; stands.
HANDED = [0, 8, 1, 1, 0, 1, 2, 1, 1, 3, 3, 2, 1, 0, 2, 0, 1, 3, 0, 3, FAR, 4]
ANSWERED = [1, 0, 2, 0, 0, 2, 1, 0, 2, 2, 1, 1, 0, 1, -6, 4, 1, 2, 0, 1, 1, -1, 3, 1, 3, 0]

# table 8; wishes 0 to 2; 0 behind 1; open_wishes; soon of 0 and of 3; fewest; least; follow 3; a refused follow;
# open_wishes; fewest; least; stands.
SEARCHED = [0, 8, 1, 1, 0, 1, 3, 0, 1, 0, 0, 2, 0, 1, 5, 6, 0, 6, 3, 7, 8, 9, 3, 9, 101, 5, 7, 8, 4]
FOUND = [
    1, 0, 2, 0, 0, 2, 1, 0, 2, 2, 1, 1, 0,
    2, 1, 1, 1, 1, 1, -2, 7, 5, 1, 0, 0, 0, 1, 1, 1, 8, 2, 3, 1, 1, -1,
    2, 1, 0, 4, 2, 1, 1, 1, 1, 2, 4, 3, 3, 1, 0,
]


class InterfaceTest(unittest.TestCase):
    def test_each_call_by_itself(self):
        self.assertEqual(answers([0, 8]), [1, 0])
        self.assertEqual(answers([1, 1, 0]), [2, 0, 0])
        self.assertEqual(answers([2, 0, 1]), [1, -2])
        self.assertEqual(answers([3, 1]), [2, 1, 0])
        self.assertEqual(answers([4]), [3, 0, 0, 0])
        self.assertEqual(answers([5]), [1, 0])
        self.assertEqual(answers([6, 0]), [1, -2])
        self.assertEqual(answers([7]), [2, 0, 1])
        self.assertEqual(answers([8]), [1, 0])
        self.assertEqual(answers([9, 1]), [2, 0, 0])

    def test_calls_one_behind_another(self):
        self.assertEqual(answers(HANDED), ANSWERED)
        self.assertEqual(answers(SEARCHED), FOUND)

    def test_a_refusal_stands_alone(self):
        self.assertEqual(answers([0, 9, 1, 2, 0, 2, 0, 0, 3, 2]), [1, -1, 1, -1, 1, -2, 1, -1])
        self.assertEqual(answers([6, FAR, 9, FAR, 1, 0, 0, 6, 0]), [1, -2, 1, -1, 2, 0, 1, 1, -3])

    def test_nothing_else_is_below_nought(self):
        self.assertEqual([number for number in answers(SEARCHED) if number < 0], [-2, -1])

    def test_whole_numbers_in_a_list(self):
        for row in (answers(HANDED + [1, 0, 0, 1, 5, 4]), answers(SEARCHED)):
            self.assertIs(type(row), list)
            self.assertEqual([number for number in row if type(number) is not int], [])

    def test_what_is_handed_in_stays_as_it_was(self):
        for calls in (HANDED, SEARCHED):
            handed = list(calls)
            answers(handed)
            self.assertEqual(handed, calls)

    def test_what_is_handed_in_is_never_touched(self):
        class Watched(list):
            def refuse(self, *given):
                raise AssertionError("what was handed in is changed")

            append = extend = insert = pop = remove = clear = reverse = sort = refuse
            __setitem__ = __delitem__ = __iadd__ = __imul__ = refuse

        self.assertEqual(answers(Watched(HANDED)), ANSWERED)
        self.assertEqual(answers(Watched(SEARCHED)), FOUND)

    def test_nothing_is_kept_from_one_time_to_the_next(self):
        self.assertEqual(answers(HANDED), answers(HANDED))
        self.assertEqual(answers(SEARCHED), answers(SEARCHED))
        answers([0, 5, 1, 2, 0, 3, 0])
        self.assertEqual(answers([4, 3, 1, 3, 1]), [3, 0, 0, 0, 2, 1, 0, 2, 0, 0])
        self.assertEqual(answers(HANDED), ANSWERED)

    def test_what_is_given_back_is_the_callers_own(self):
        row = answers(HANDED)
        row.clear()
        self.assertEqual(answers(HANDED), ANSWERED)
        row = answers(SEARCHED)
        row.clear()
        self.assertEqual(answers(SEARCHED), FOUND)

    def test_forty_calls(self):
        self.assertEqual(answers([4] * 40), [3, 0, 0, 0] * 40)
        self.assertEqual(answers([0, 8] + [1, FAR, FAR] * 39), [1, 0] + [1, -1] * 39)
        self.assertEqual(answers([5] * 34 + [7, 8] * 3), [1, 0] * 34 + [2, 0, 1, 1, 0] * 3)


if __name__ == "__main__":
    unittest.main()
