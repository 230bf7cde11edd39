import unittest
from itertools import permutations

from evenrows.errors import NoHand, NoHands, NoRow, NoWorths
from evenrows.rows import is_row, lead, signs, totals
from tests import oracle
from tests.wrong import Prickly, no_numbers, no_tuples

NO_HANDS = [-2, -1, 0, 1, 5, 6, 64, 2 ** 64, -(2 ** 64), 10 ** 5000]
LONGEST = tuple(place % 2 for place in range(64))
TOO_LONG = LONGEST + (0,)


def no_hands():
    return NO_HANDS + no_numbers()


def no_rows_of_two():
    """Rows that are none of 2 hands."""
    return no_tuples() + [
        (), TOO_LONG, TOO_LONG * 9, (2,), (0, 1, 2), (-1, 0), (0, 1, 64), (0, 10 ** 5000),
        (True,), (False,), (0, True), (0, 1, False), (None,), (0, "1"), (0, (1,)), ((0, 1),),
        ([0], 1), (0, [1]), (0, 1j), (b"",), (0, Prickly()), (Prickly(), 0),
    ]


def no_two_hands():
    """Pairs that are no two hands of 2."""
    alike = [(0, 0), (1, 1)]
    wrong = [-1, 2, 3, 64, 10 ** 5000] + no_numbers()
    return alike + [(thing, 0) for thing in wrong] + [(1, thing) for thing in wrong]


def no_worths_of_four():
    """Worths that are none for 4 places."""
    return no_tuples() + [
        (), (1,), (1, 2, 3), (1, 2, 3, 4, 5), (1, 2, 3, True), (False, 2, 3, 4), (1, 2, 3, "4"),
        (1, None, 3, 4), (1, 2, 3, (4,)), ((1, 2, 3, 4),), (1, 2, [3], 4), (1, 2, 3, 4j),
        (Prickly(), 2, 3, 4), (1, 2, 3, Prickly()),
    ]


class IsRowTest(unittest.TestCase):

    def test_rows(self):
        for hands, row in ((2, (0,)), (2, (1,)), (2, (0, 1, 1, 0)), (2, (1, 1)), (2, LONGEST),
                           (3, (2,)), (3, (0, 1, 2)), (3, (2,) * 64), (4, (3,)), (4, (3, 0, 3, 1))):
            with self.subTest((hands, row)):
                self.assertIs(is_row(hands, row), True)

    def test_places_are_1_to_64(self):
        for places in range(1, 65):
            self.assertIs(is_row(2, (0,) * places), True)
        for places in (0, 65, 66, 128, 1000):
            self.assertIs(is_row(2, (0,) * places), False)

    def test_hands_that_are_not_there(self):
        for hands in (2, 3, 4):
            self.assertIs(is_row(hands, (0, hands - 1)), True)
            self.assertIs(is_row(hands, (0, hands)), False)
            self.assertIs(is_row(hands, (hands, 0)), False)
            self.assertIs(is_row(hands, (-1, 0)), False)

    def test_true_and_false_are_no_hands(self):
        self.assertIs(is_row(2, (0, 1)), True)
        for thing in ((False, True), (0, True), (False, 1), (0, 1, 1, False), (True, 0, 1, 1)):
            with self.subTest(thing):
                self.assertIs(is_row(2, thing), False)

    def test_things_of_every_kind_are_none(self):
        for at, thing in enumerate(no_rows_of_two()):
            with self.subTest(at):
                self.assertIs(is_row(2, thing), False)

    def test_hands_alone_are_refused(self):
        for at, hands in enumerate(no_hands()):
            for thing in ((0, 1), (), None, [0, 1], Prickly()):
                with self.subTest(at):
                    with self.assertRaises(NoHands):
                        is_row(hands, thing)

    def test_a_list_is_left_as_it_was(self):
        thing = [0, 1]
        self.assertIs(is_row(2, thing), False)
        self.assertEqual(thing, [0, 1])

    def test_equal_things_give_equal_answers(self):
        self.assertIs(is_row(2, tuple([0, 1, 1])), is_row(2, (0, 1, 1)))
        self.assertIs(is_row(2, tuple([0, 1, 2])), is_row(2, (0, 1, 2)))


class SignsTest(unittest.TestCase):

    def test_two_hands(self):
        self.assertEqual(signs(2, (0, 1, 1, 0), 0, 1), [1, -1, -1, 1])
        self.assertEqual(signs(2, (0, 1, 1, 0), 1, 0), [-1, 1, 1, -1])

    def test_other_hands_are_0(self):
        row = (0, 1, 2, 3, 3, 2, 0)
        self.assertEqual(signs(4, row, 0, 1), [1, -1, 0, 0, 0, 0, 1])
        self.assertEqual(signs(4, row, 3, 0), [-1, 0, 0, 1, 1, 0, -1])
        self.assertEqual(signs(3, (0, 0), 1, 2), [0, 0])

    def test_1_and_64_places(self):
        self.assertEqual(signs(2, (0,), 0, 1), [1])
        self.assertEqual(signs(2, (1,), 0, 1), [-1])
        self.assertEqual(signs(3, (2,), 0, 1), [0])
        self.assertEqual(signs(2, LONGEST, 0, 1), [1, -1] * 32)

    def test_all_short_rows(self):
        for hands, row in oracle.some_rows():
            for one, other in permutations(range(hands), 2):
                found = signs(hands, row, one, other)
                self.assertEqual(found, oracle.signs(row, one, other))
                self.assertIs(all([isinstance(sign, int) for sign in found]), True)

    def test_told_twice_are_two_lists(self):
        row = (0, 1)
        first = signs(2, row, 0, 1)
        first.append(9)
        first[0] = 7
        self.assertEqual(signs(2, row, 0, 1), [1, -1])
        self.assertEqual(row, (0, 1))

    def test_refused(self):
        for at, hands in enumerate(no_hands()):
            with self.subTest(hands=at), self.assertRaises(NoHands):
                signs(hands, (0, 1), 0, 1)
        for at, row in enumerate(no_rows_of_two()):
            with self.subTest(row=at), self.assertRaises(NoRow):
                signs(2, row, 0, 1)
        for at, (one, other) in enumerate(no_two_hands()):
            with self.subTest(two=at), self.assertRaises(NoHand):
                signs(2, (0, 1), one, other)

    def test_the_first_refusal_is_told(self):
        for hands, row, one, other, told in (
                (5, [], 9, 9, NoHands), (True, (0, 1), 0, 1, NoHands), (None, (0, 1), 0, 0, NoHands),
                (2, [0, 1], 0, 1, NoRow), (2, (0, 2), 0, 0, NoRow), (2, (), True, 7, NoRow),
                (2, (0, 1), 2, 2, NoHand), (2, (0, 1), True, 1, NoHand), (3, (0, 1), 2, 3, NoHand)):
            with self.subTest((hands, row, one, other)), self.assertRaises(told):
                signs(hands, row, one, other)

    def test_the_hands_of_more_hands(self):
        self.assertEqual(signs(3, (0, 1), 2, 0), [-1, 0])
        with self.assertRaises(NoHand):
            signs(3, (0, 1), 3, 0)
        with self.assertRaises(NoHand):
            signs(4, (0, 1), 0, 4)


class TotalsTest(unittest.TestCase):

    def test_by_hand(self):
        self.assertEqual(totals(2, (0, 1, 1, 0), (7, 5, 3, 2)), [9, 8])
        self.assertEqual(totals(3, (2, 0, 1, 2), (1, 10, 100, 1000)), [10, 100, 1001])
        self.assertEqual(totals(4, (3, 3), (4, 5)), [0, 0, 0, 9])

    def test_place_by_place(self):
        row = (0, 3, 1, 2, 2, 0)
        for place, turn in enumerate(row):
            worths = [0] * len(row)
            worths[place] = 5
            expected = [0] * 4
            expected[turn] = 5
            self.assertEqual(totals(4, row, tuple(worths)), expected)

    def test_below_0_and_0_and_great(self):
        great = 2 ** 63 + 12345
        self.assertEqual(totals(2, (0, 1, 0), (-4, 0, 3)), [-1, 0])
        self.assertEqual(totals(2, (0, 1, 0), (great, -great, great)), [2 * great, -great])
        self.assertEqual(totals(2, (1,), (-(2 ** 200),)), [0, -(2 ** 200)])

    def test_1_and_64_places(self):
        self.assertEqual(totals(2, (1,), (6,)), [0, 6])
        self.assertEqual(totals(2, LONGEST, tuple(range(64))), [992, 1024])

    def test_all_short_rows(self):
        worths = (3, -1, 0, 2 ** 64, 17, -90, 5, 8)
        for hands, row in oracle.some_rows():
            told = worths[:len(row)]
            expected = [oracle.total(row, hand, told) for hand in range(hands)]
            self.assertEqual(totals(hands, row, told), expected)

    def test_told_twice_are_two_lists(self):
        row, worths = (0, 1), (4, 5)
        totals(2, row, worths).append(9)
        totals(2, row, worths)[0] = 7
        self.assertEqual(totals(2, row, worths), [4, 5])
        self.assertEqual((row, worths), ((0, 1), (4, 5)))

    def test_refused(self):
        for at, hands in enumerate(no_hands()):
            with self.subTest(hands=at), self.assertRaises(NoHands):
                totals(hands, (0, 1), (1, 2))
        for at, row in enumerate(no_rows_of_two()):
            with self.subTest(row=at), self.assertRaises(NoRow):
                totals(2, row, (1, 2))
        for at, worths in enumerate(no_worths_of_four()):
            with self.subTest(worths=at), self.assertRaises(NoWorths):
                totals(2, (0, 1, 1, 0), worths)

    def test_the_first_refusal_is_told(self):
        for hands, row, worths, told in (
                (1, (), [], NoHands), (False, (0, 1), (1,), NoHands), ("2", [0], (1,), NoHands),
                (2, [0, 1], [1, 2], NoRow), (2, (0, 2), (1,), NoRow), (2, (), (), NoRow),
                (2, TOO_LONG, (1,), NoRow), (2, (0, 1), (1,), NoWorths)):
            with self.subTest((hands, row, worths)), self.assertRaises(told):
                totals(hands, row, worths)


class LeadTest(unittest.TestCase):

    def test_by_hand(self):
        self.assertEqual(lead(2, (0, 1, 1, 0), 0, 1, (7, 5, 3, 2)), 1)
        self.assertEqual(lead(3, (2, 0, 1, 2), 2, 1, (1, 10, 100, 1000)), 901)
        self.assertEqual(lead(3, (2, 0, 1, 2), 0, 1, (1, 10, 100, 1000)), -90)

    def test_place_by_place(self):
        row = (0, 2, 1, 0)
        for place, sign in enumerate([1, 0, -1, 1]):
            worths = [0] * len(row)
            worths[place] = 5
            self.assertEqual(lead(3, row, 0, 1, tuple(worths)), 5 * sign)

    def test_the_other_way_about(self):
        worths = (3, -1, 0, 2 ** 64, 17, -90, 5, 8)
        for hands, row in oracle.some_rows():
            told = worths[:len(row)]
            for one, other in permutations(range(hands), 2):
                found = lead(hands, row, one, other, told)
                self.assertEqual(found, oracle.total(row, one, told) - oracle.total(row, other, told))
                self.assertEqual(lead(hands, row, other, one, told), -found)

    def test_below_0_and_0_and_great(self):
        great = 2 ** 63 + 7
        self.assertEqual(lead(2, (0, 1), 0, 1, (0, 0)), 0)
        self.assertEqual(lead(2, (0, 1), 0, 1, (-3, 5)), -8)
        self.assertEqual(lead(2, (0, 1), 0, 1, (great, -great)), 2 * great)

    def test_1_and_64_places(self):
        self.assertEqual(lead(2, (1,), 0, 1, (6,)), -6)
        self.assertEqual(lead(2, LONGEST, 1, 0, tuple(range(64))), 32)

    def test_refused(self):
        for at, hands in enumerate(no_hands()):
            with self.subTest(hands=at), self.assertRaises(NoHands):
                lead(hands, (0, 1), 0, 1, (1, 2))
        for at, row in enumerate(no_rows_of_two()):
            with self.subTest(row=at), self.assertRaises(NoRow):
                lead(2, row, 0, 1, (1, 2))
        for at, (one, other) in enumerate(no_two_hands()):
            with self.subTest(two=at), self.assertRaises(NoHand):
                lead(2, (0, 1), one, other, (1, 2))
        for at, worths in enumerate(no_worths_of_four()):
            with self.subTest(worths=at), self.assertRaises(NoWorths):
                lead(2, (0, 1, 1, 0), 0, 1, worths)

    def test_the_first_refusal_is_told(self):
        for hands, row, one, other, worths, told in (
                (5, (), 9, 9, [], NoHands), (True, (0, 1), 0, 1, (1, 2), NoHands),
                (2, [0, 1], 0, 0, (1, 2), NoRow), (2, (0, 1, True), 0, 1, (1, 2), NoRow),
                (2, (0, 1), 0, 0, (1,), NoHand), (2, (0, 1), 0, 2, "ab", NoHand),
                (2, (0, 1), True, 0, (1, 2), NoHand), (2, (0, 1), 0, 1, (1, True), NoWorths)):
            with self.subTest((hands, row, one, other, worths)), self.assertRaises(told):
                lead(hands, row, one, other, worths)


if __name__ == "__main__":
    unittest.main()
