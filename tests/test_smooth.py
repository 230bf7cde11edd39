import unittest

from evenrows.errors import NoDegree, NoOrder, NoWorths
from evenrows.smooth import differences, is_smooth
from tests import oracle
from tests.wrong import Prickly, no_numbers, no_tuples

WORTHS = (3, -1, 0, 2 ** 64, 17, -90, 5, 8, 8, 0, -7, 1, 2)


def no_worths():
    return no_tuples() + [
        (), (True,), (1, True), (False, 1, 2), ("1",), (1, "2"), (1, None), ((1, 2),), (1, [2]),
        (1j,), (b"1",), (1, 2, Prickly()), (Prickly(), 1),
    ]


def no_order():
    """What is no order, and likewise no degree, from 0 to 9."""
    return [-1, -2, 10, 11, 64, 2 ** 64, -(10 ** 5000), 10 ** 5000] + no_numbers()


class DifferencesTest(unittest.TestCase):

    def test_by_hand(self):
        worths = (1, 4, 9, 16, 24)
        self.assertEqual(differences(worths, order=0), [1, 4, 9, 16, 24])
        self.assertEqual(differences(worths, order=1), [3, 5, 7, 8])
        self.assertEqual(differences(worths, order=2), [2, 2, 1])
        self.assertEqual(differences(worths, order=3), [0, -1])
        self.assertEqual(differences(worths, order=4), [-1])

    def test_the_order_is_1_where_none_is_told(self):
        self.assertEqual(differences((5, 3, 3, -2)), [-2, 0, -5])

    def test_order_9(self):
        self.assertEqual(differences((0,) * 9 + (1,), order=9), [1])
        self.assertEqual(differences((1,) + (0,) * 9, order=9), [-1])
        self.assertEqual(differences((0, 1) + (0,) * 9, order=9), [9, -1])

    def test_all_orders(self):
        for many in range(1, len(WORTHS) + 1):
            for order in range(10):
                expected = oracle.differences(WORTHS[:many], order)
                self.assertEqual(differences(WORTHS[:many], order=order), expected)

    def test_there_are_none_of_as_great_an_order(self):
        for many in range(1, 10):
            for order in range(many, 10):
                self.assertEqual(differences(WORTHS[:many], order=order), [])
            self.assertEqual(len(differences(WORTHS[:many], order=many - 1)), 1)

    def test_one_worth(self):
        self.assertEqual(differences((7,), order=0), [7])
        self.assertEqual(differences((7,)), [])

    def test_more_worths_than_a_row_has_places(self):
        self.assertEqual(differences(tuple(range(80))), [1] * 79)

    def test_told_twice_are_two_lists(self):
        for order in (0, 1, 2):
            worths = (1, 4, 9)
            first = differences(worths, order=order)
            kept = list(first)
            first.append(9)
            first[0] = -5
            self.assertEqual(differences(worths, order=order), kept)
            self.assertEqual(worths, (1, 4, 9))

    def test_refused(self):
        for at, worths in enumerate(no_worths()):
            with self.subTest(worths=at), self.assertRaises(NoWorths):
                differences(worths)
            with self.subTest(worths=at), self.assertRaises(NoWorths):
                differences(worths, order=0)
        for at, order in enumerate(no_order()):
            with self.subTest(order=at), self.assertRaises(NoOrder):
                differences((1, 2, 3), order=order)

    def test_the_first_refusal_is_told(self):
        for worths, order in (((), -1), ([1, 2], 10), ((1, True), True), (None, "1")):
            with self.subTest((worths, order)), self.assertRaises(NoWorths):
                differences(worths, order=order)


class IsSmoothTest(unittest.TestCase):

    def test_degree_0_is_all_alike(self):
        self.assertIs(is_smooth((4, 4, 4), 0), True)
        self.assertIs(is_smooth((4, 4, 5), 0), False)
        self.assertIs(is_smooth((5, 4, 4), 0), False)
        self.assertIs(is_smooth((-(2 ** 70),) * 3, 0), True)

    def test_none_left(self):
        self.assertIs(is_smooth((9,), 0), True)
        for many in range(1, 11):
            for degree in range(many - 1, 10):
                self.assertIs(is_smooth(WORTHS[:many], degree), True)
        self.assertIs(is_smooth(WORTHS[:2], 0), False)
        self.assertIs(is_smooth(WORTHS[:3], 1), False)

    def test_degree_9_asks_for_order_10(self):
        self.assertIs(is_smooth((0,) * 10 + (1,), 9), False)
        self.assertIs(is_smooth((0,) * 9 + (1,), 9), True)
        self.assertIs(is_smooth(oracle.powers(14, 9), 9), True)
        self.assertIs(is_smooth(oracle.powers(14, 10), 9), False)

    def test_powers_up_to_the_degree(self):
        for degree in range(10):
            made = [0] * 14
            for power in range(degree + 1):
                made = [worth + (power - 4 or 3) * more for worth, more in zip(made, oracle.powers(14, power))]
            self.assertIs(is_smooth(tuple(made), degree), True)
            if degree:
                self.assertIs(is_smooth(tuple(made), degree - 1), False)
            if degree < 9:
                self.assertIs(is_smooth(tuple(made), degree + 1), True)

    def test_one_of_them_changed(self):
        for degree in range(10):
            for place in range(14):
                made = list(oracle.powers(14, degree))
                made[place] += 1
                self.assertIs(is_smooth(tuple(made), degree), False)

    def test_not_alike_though_their_sum_is_0(self):
        self.assertIs(is_smooth((0, 1, 1, 0), 0), False)
        self.assertIs(is_smooth((0, 1, 1, 2), 1), False)

    def test_handed_in_is_as_it_was(self):
        worths = (1, 4, 9)
        self.assertIs(is_smooth(worths, 1), False)
        self.assertEqual(worths, (1, 4, 9))

    def test_refused(self):
        for at, worths in enumerate(no_worths()):
            with self.subTest(worths=at), self.assertRaises(NoWorths):
                is_smooth(worths, 1)
        for at, degree in enumerate(no_order()):
            with self.subTest(degree=at), self.assertRaises(NoDegree):
                is_smooth((1, 2, 3), degree)

    def test_the_first_refusal_is_told(self):
        for worths, degree in (((), -1), ([1, 2], 10), ((1, True), True), (None, "1")):
            with self.subTest((worths, degree)), self.assertRaises(NoWorths):
                is_smooth(worths, degree)


if __name__ == "__main__":
    unittest.main()
