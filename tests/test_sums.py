import unittest
from itertools import combinations, permutations

from evenrows.errors import NoDegree, NoHand, NoHands, NoOrder, NoRow
from evenrows.rows import lead, signs
from evenrows.sums import evenness, is_even, sums
from tests import oracle
from tests.test_rows import LONGEST, no_hands, no_rows_of_two, no_two_hands
from tests.test_smooth import no_order

FOUR = (0, 1, 1, 0)
EIGHT = (0, 1, 1, 0, 1, 0, 0, 1)


def turns_by_bits(places):
    """The row of 2 hands that turns each stretch about behind itself."""
    return tuple(bin(place).count("1") % 2 for place in range(places))


class SumsTest(unittest.TestCase):

    def test_order_0_are_the_signs(self):
        self.assertEqual(sums(2, FOUR, 0, 1, order=0), [1, -1, -1, 1])
        self.assertEqual(sums(3, (0, 2, 1), 2, 0, order=0), [-1, 1, 0])

    def test_the_order_is_1_where_none_is_told(self):
        self.assertEqual(sums(2, FOUR, 0, 1), [1, 0, -1, 0])

    def test_orders_by_hand(self):
        for order, expected in enumerate((
                [1, -1, -1, 1], [1, 0, -1, 0], [1, 1, 0, 0], [1, 2, 2, 2], [1, 3, 5, 7],
                [1, 4, 9, 16], [1, 5, 14, 30], [1, 6, 20, 50], [1, 7, 27, 77], [1, 8, 35, 112])):
            self.assertEqual(sums(2, FOUR, 0, 1, order=order), expected)
            self.assertEqual(sums(2, FOUR, 1, 0, order=order), [-number for number in expected])

    def test_three_hands_by_hand(self):
        row = (0, 2, 1, 0)
        self.assertEqual(sums(3, row, 0, 1), [1, 1, 0, 1])
        self.assertEqual(sums(3, row, 0, 1, order=2), [1, 2, 2, 3])
        self.assertEqual(sums(3, row, 1, 2), [0, -1, 0, 0])

    def test_one_place(self):
        for order in range(10):
            self.assertEqual(sums(2, (0,), 0, 1, order=order), [1])
            self.assertEqual(sums(3, (0,), 1, 2, order=order), [0])

    def test_64_places(self):
        for order in range(10):
            expected = oracle.sums([1, -1] * 32, order)
            self.assertEqual(sums(2, LONGEST, 0, 1, order=order), expected)

    def test_rows_of_each_number_of_hands(self):
        for hands, row in oracle.some_rows()[::7]:
            for one, other in permutations(range(hands), 2):
                line = oracle.signs(row, one, other)
                for order in range(10):
                    self.assertEqual(sums(hands, row, one, other, order=order), oracle.sums(line, order))

    def test_told_twice_are_two_lists(self):
        for order in (0, 1, 3):
            row = (0, 1, 1, 0)
            first = sums(2, row, 0, 1, order=order)
            kept = list(first)
            first.append(9)
            first[0] = -5
            self.assertEqual(sums(2, row, 0, 1, order=order), kept)
            self.assertEqual(signs(2, row, 0, 1), [1, -1, -1, 1])
            self.assertEqual(row, FOUR)

    def test_refused(self):
        for at, hands in enumerate(no_hands()):
            with self.subTest(hands=at), self.assertRaises(NoHands):
                sums(hands, (0, 1), 0, 1)
        for at, row in enumerate(no_rows_of_two()):
            with self.subTest(row=at), self.assertRaises(NoRow):
                sums(2, row, 0, 1)
        for at, (one, other) in enumerate(no_two_hands()):
            with self.subTest(two=at), self.assertRaises(NoHand):
                sums(2, (0, 1), one, other)
        for at, order in enumerate(no_order()):
            with self.subTest(order=at), self.assertRaises(NoOrder):
                sums(2, (0, 1), 0, 1, order=order)

    def test_the_first_refusal_is_told(self):
        for hands, row, one, other, order, told in (
                (5, (), 9, 9, -1, NoHands), (True, (0, 1), 0, 1, 10, NoHands),
                (2, [0, 1], 0, 0, 1, NoRow), (2, (0, 2), 0, 1, True, NoRow),
                (2, (0, 1), 0, 0, -1, NoHand), (2, (0, 1), 0, True, 10, NoHand),
                (2, (0, 1), 0, 1, False, NoOrder)):
            with self.subTest((hands, row, one, other, order)), self.assertRaises(told):
                sums(hands, row, one, other, order=order)


class IsEvenTest(unittest.TestCase):

    def test_known_rows(self):
        for hands, row, degree in (
                (2, FOUR, 1), (2, EIGHT, 2), (2, (0, 1), 0), (3, (0, 1, 2), 0), (4, (0, 1, 2, 3), 0),
                (3, (0, 1, 2, 2, 1, 0), 1), (4, (0, 1, 2, 3, 3, 2, 1, 0), 1),
                (2, (0, 1, 1, 1, 0, 0, 0, 1), 0), (2, LONGEST, 0), (2, turns_by_bits(64), 5)):
            with self.subTest((hands, row)):
                for lower in range(10):
                    self.assertIs(is_even(hands, row, lower), lower <= degree)

    def test_rows_even_to_none(self):
        for hands, row in ((2, (0,)), (2, (1, 1)), (2, (0, 1, 0)), (3, (0, 1)), (4, (0, 1, 2))):
            for degree in range(10):
                self.assertIs(is_even(hands, row, degree), False)

    def test_one_pair_is_even_and_another_is_not(self):
        for row, pair in (((0, 1, 1, 0, 2), (0, 1)), ((0, 2, 2, 0, 1), (0, 2)), ((1, 2, 2, 1, 0), (1, 2))):
            with self.subTest(row):
                found = [two for two in combinations(range(3), 2) if oracle.two_are_even(row, *two, 1)]
                self.assertEqual(found, [pair])
                self.assertIs(is_even(3, row, 0), False)
                self.assertIs(is_even(3, row, 1), False)

    def test_one_pair_is_even_further_than_another(self):
        row = (0, 1, 2, 2, 3, 3, 1, 0)
        found = [two for two in combinations(range(4), 2) if oracle.two_are_even(row, *two, 1)]
        self.assertEqual(found, [(0, 1)])
        self.assertIs(is_even(4, row, 0), True)
        self.assertIs(is_even(4, row, 1), False)

    def test_hands_without_a_turn(self):
        self.assertIs(is_even(2, FOUR, 1), True)
        self.assertIs(is_even(3, FOUR, 0), False)
        self.assertIs(is_even(4, FOUR, 0), False)

    def test_all_short_rows_at_all_smooth_worths(self):
        for hands, row in oracle.some_rows():
            for degree in (0, 1, 2, 9):
                self.assertIs(is_even(hands, row, degree), oracle.is_even(hands, row, degree))

    def test_totals_are_alike_just_where_the_row_is_even(self):
        for degree in range(6):
            row = turns_by_bits(2 ** (degree + 1))
            worths = tuple(7 - 3 * place ** degree + place for place in range(len(row)))
            if degree:
                self.assertEqual(lead(2, row, 0, 1, worths), 0)
            self.assertIs(is_even(2, row, degree), True)
            self.assertNotEqual(lead(2, row, 0, 1, oracle.powers(len(row), degree + 1)), 0)
            self.assertIs(is_even(2, row, degree + 1), False)

    def test_just_if_the_last_sums_are_0(self):
        for row in oracle.rows(2, 8):
            last = [sums(2, row, 0, 1, order=order)[-1] for order in range(1, 5)]
            for degree in range(4):
                self.assertIs(is_even(2, row, degree), not any(last[:degree + 1]))

    def test_refused(self):
        for at, hands in enumerate(no_hands()):
            with self.subTest(hands=at), self.assertRaises(NoHands):
                is_even(hands, (0, 1), 0)
        for at, row in enumerate(no_rows_of_two()):
            with self.subTest(row=at), self.assertRaises(NoRow):
                is_even(2, row, 0)
        for at, degree in enumerate(no_order()):
            with self.subTest(degree=at), self.assertRaises(NoDegree):
                is_even(2, (0, 1), degree)
            with self.subTest(degree=at), self.assertRaises(NoDegree):
                is_even(2, (0,), degree)

    def test_the_first_refusal_is_told(self):
        for hands, row, degree, told in (
                (5, (), -1, NoHands), (True, (0, 1), 10, NoHands), (None, (0, 1), 0, NoHands),
                (2, [0, 1], -1, NoRow), (2, (0, True), True, NoRow), (2, (0, 1), True, NoDegree)):
            with self.subTest((hands, row, degree)), self.assertRaises(told):
                is_even(hands, row, degree)


class EvennessTest(unittest.TestCase):

    def test_known_rows(self):
        for hands, row, degree in (
                (2, (0,), -1), (2, (1, 1), -1), (2, (0, 1, 0), -1), (2, (0, 1), 0), (2, (0, 0, 1, 1), 0),
                (2, FOUR, 1), (2, EIGHT, 2), (2, (0, 1, 1, 1, 0, 0, 0, 1), 0), (2, LONGEST, 0),
                (3, (0, 1, 2), 0), (3, (0, 1, 2, 2, 1, 0), 1), (3, (0, 1, 1, 0), -1), (3, (2,), -1),
                (3, (0, 1, 1, 0, 2), -1), (4, (0, 1, 2, 3), 0), (4, (0, 1, 2, 3, 3, 2, 1, 0), 1), (4, FOUR, -1)):
            with self.subTest((hands, row)):
                self.assertEqual(evenness(hands, row), degree)

    def test_64_places(self):
        for degree in range(6):
            self.assertEqual(evenness(2, turns_by_bits(2 ** (degree + 1))), degree)
        self.assertEqual(evenness(2, (0,) * 64), -1)
        self.assertEqual(evenness(4, (0, 1, 2, 3) * 16), 0)

    def test_the_greatest_degree_of_all_short_rows(self):
        for hands, row in oracle.some_rows():
            found = evenness(hands, row)
            self.assertEqual(found, oracle.evenness(hands, row))
            self.assertEqual([is_even(hands, row, degree) for degree in range(10)],
                             [degree <= found for degree in range(10)])

    def test_it_is_a_whole_number(self):
        for row in ((0,), (0, 1), FOUR):
            self.assertIs(type(evenness(2, row)), int)

    def test_refused(self):
        for at, hands in enumerate(no_hands()):
            with self.subTest(hands=at), self.assertRaises(NoHands):
                evenness(hands, (0, 1))
            with self.subTest(hands=at), self.assertRaises(NoHands):
                evenness(hands, None)
        for at, row in enumerate(no_rows_of_two()):
            with self.subTest(row=at), self.assertRaises(NoRow):
                evenness(2, row)


if __name__ == "__main__":
    unittest.main()
