import unittest
from itertools import combinations, permutations

from evenrows.errors import NoBound, NoHand, NoHands, NoOrder, NoRow, NotEven
from evenrows.leads import greatest, of_two, worst
from evenrows.rows import lead
from tests import oracle
from tests.test_rows import LONGEST, TOO_LONG, no_hands, no_rows_of_two, no_two_hands
from tests.test_sums import EIGHT, FOUR, turns_by_bits
from tests.wrong import Prickly, Refusing, no_numbers

SIXTEEN = turns_by_bits(16)
SIX = (0, 1, 2, 2, 1, 0)


def no_lead_orders():
    return [0, 5, -1, 6, 9, 64, 2 ** 64, -(10 ** 5000), 10 ** 5000] + no_numbers()


def no_bounds():
    return [-1, 100, 101, -99, 2 ** 64, -(10 ** 5000), 10 ** 5000] + no_numbers()


def even_rows(order, most=6):
    """Short rows that have a greatest lead of the order."""
    return [(hands, row) for hands, row in oracle.some_rows()
            if len(row) <= most and oracle.is_even(hands, row, order - 1)]


class GreatestTest(Refusing, unittest.TestCase):

    def test_by_hand(self):
        for hands, row, expected in (
                (2, (0, 1), [1, None, None, None]), (2, (1, 0), [1, None, None, None]),
                (2, (0, 0, 1, 1), [4, None, None, None]), (2, FOUR, [2, 2, None, None]),
                (2, EIGHT, [4, 4, 8, None]), (2, SIXTEEN, [8, 8, 16, 64]),
                (3, (0, 1, 2), [2, None, None, None]), (3, (2, 0, 1), [2, None, None, None]),
                (3, SIX, [4, 6, None, None]), (4, (0, 1, 2, 3), [3, None, None, None]),
                (4, (0, 1, 2, 3, 3, 2, 1, 0), [6, 12, None, None])):
            with self.subTest((hands, row)):
                self.assertEqual([greatest(hands, row, order) for order in (1, 2, 3, 4)], expected)

    def test_bounds(self):
        for order, once in ((1, 8), (2, 8), (3, 16), (4, 64)):
            for bound in (0, 1, 2, 50, 98, 99):
                self.assertEqual(greatest(2, SIXTEEN, order, bound=bound), bound * once)
            self.assertEqual(greatest(2, SIXTEEN, order), once)

    def test_none_where_the_row_is_not_even_so_far(self):
        for bound in (0, 1, 99):
            for order in (1, 2, 3, 4):
                self.assertIsNone(greatest(2, (0,), order, bound=bound))
                self.assertIsNone(greatest(2, (0, 1, 0), order, bound=bound))
                self.assertIsNone(greatest(2, (0,) * 64, order, bound=bound))
            self.assertIsNone(greatest(2, FOUR, 3, bound=bound))
            self.assertIsNone(greatest(2, EIGHT, 4, bound=bound))

    def test_none_where_only_some_two_hands_are_not_even_so_far(self):
        for hands, row, order, uneven in (
                (3, (0, 1, 1, 0), 1, {(0, 2), (1, 2)}), (3, (0, 1, 1, 0), 2, {(0, 2), (1, 2)}),
                (3, (1, 2, 2, 1), 1, {(0, 1), (0, 2)}), (3, (0, 2, 2, 0, 1), 2, {(0, 1), (1, 2)}),
                (4, (0, 1, 2, 2, 3, 3, 1, 0), 2, {(0, 2), (0, 3), (1, 2), (1, 3), (2, 3)}),
                (4, (0, 1, 2, 3, 3, 2, 0, 1), 2, {(0, 1), (0, 2), (0, 3), (1, 2), (1, 3)})):
            with self.subTest((hands, row, order)):
                found = {two for two in combinations(range(hands), 2) if of_two(hands, row, *two, order) is None}
                self.assertEqual(found, uneven)
                self.assertIsNone(greatest(hands, row, order))

    def test_just_where_the_row_is_even_to_the_order_less_1(self):
        for hands, row in oracle.some_rows():
            for order in (1, 2, 3, 4):
                there_is = greatest(hands, row, order) is not None
                self.assertIs(there_is, oracle.is_even(hands, row, order - 1))

    def test_the_greatest_of_each_two_hands(self):
        for order in (1, 2, 3, 4):
            for hands, row in even_rows(order, most=8):
                for bound in (0, 1, 7):
                    found = greatest(hands, row, order, bound=bound)
                    self.assertIs(type(found), int)
                    self.assertEqual(found, oracle.greatest(hands, row, order, bound))
                    self.assertEqual(found, max(
                        of_two(hands, row, one, other, order, bound=bound)
                        for one, other in permutations(range(hands), 2)))

    def test_each_pair_of_hands_can_be_the_greatest(self):
        # The first and the last turn of three or four have the greatest lead.
        for hands in (3, 4):
            for row in permutations(range(hands)):
                found = {two for two in combinations(range(hands), 2)
                         if of_two(hands, row, *two, 1) == greatest(hands, row, 1)}
                self.assertEqual(found, {tuple(sorted((row[0], row[-1])))})

    def test_the_longest_rows(self):
        self.assertEqual(greatest(2, LONGEST, 1, bound=99), 99 * 32)
        self.assertEqual(greatest(4, (0, 1, 2, 3) * 16, 1, bound=99), 99 * 48)
        for order, once in ((1, 32), (2, 32), (3, 64), (4, 256)):
            self.assertEqual(greatest(2, turns_by_bits(64), order, bound=99), 99 * once)

    def test_equal_things_give_equal_answers(self):
        self.assertEqual(greatest(2, tuple([0, 1, 1, 0]), 2), greatest(2, FOUR, 2))

    def test_refused(self):
        self.refuses(NoHands, lambda hands: greatest(hands, (0, 1), 1), no_hands())
        self.refuses(NoRow, lambda row: greatest(2, row, 1), no_rows_of_two())
        self.refuses(NoOrder, lambda order: greatest(2, (0, 1), order), no_lead_orders())
        self.refuses(NoOrder, lambda order: greatest(2, (0,), order), no_lead_orders())
        self.refuses(NoBound, lambda bound: greatest(2, (0, 1), 1, bound=bound), no_bounds())
        self.refuses(NoBound, lambda bound: greatest(2, (0,), 1, bound=bound), no_bounds())

    def test_the_first_refusal_is_told(self):
        self.refuses_first(lambda hands, row, order, bound: greatest(hands, row, order, bound=bound), [
            (5, (), 0, -1, NoHands), (True, (0, 1), 1, 1, NoHands), (None, None, None, None, NoHands),
            (2, [0, 1], 0, -1, NoRow), (2, (0, True), True, 100, NoRow), (2, TOO_LONG, 5, 1, NoRow),
            (2, (0, 1), 0, -1, NoOrder), (2, (0, 1), True, None, NoOrder), (2, (0,), "1", 100, NoOrder),
            (2, (0,), 1, True, NoBound)])


class OfTwoTest(Refusing, unittest.TestCase):

    def test_by_hand(self):
        for hands, row, one, other, expected in (
                (2, FOUR, 0, 1, [2, 2, None, None]), (2, EIGHT, 0, 1, [4, 4, 8, None]),
                (3, SIX, 0, 1, [2, 4, None, None]), (3, SIX, 0, 2, [4, 6, None, None]),
                (3, SIX, 1, 2, [2, 2, None, None]), (3, (0, 1, 2), 0, 1, [1, None, None, None]),
                (3, (0, 1, 2), 1, 2, [1, None, None, None]), (4, (0, 1, 2, 3), 0, 3, [3, None, None, None])):
            with self.subTest((hands, row, one, other)):
                found = [of_two(hands, row, one, other, order) for order in (1, 2, 3, 4)]
                self.assertEqual(found, expected)

    def test_two_that_are_even_while_the_row_is_not(self):
        for hands, row, one, other, order, expected in (
                (3, (0, 1, 1, 0), 0, 1, 1, 2), (3, (0, 1, 1, 0), 0, 1, 2, 2), (3, (0, 1, 1, 0, 2), 1, 0, 2, 2),
                (3, (0, 2, 1), 0, 2, 1, 1), (4, (0, 2, 1), 0, 1, 1, 2),
                (4, (0, 1, 2, 2, 3, 3, 1, 0), 0, 1, 2, 6), (4, (2, 3, 3, 2, 3, 2, 2, 3), 2, 3, 3, 8)):
            with self.subTest((hands, row, one, other, order)):
                self.assertEqual(of_two(hands, row, one, other, order), expected)
                self.assertEqual(of_two(hands, row, one, other, order, bound=99), 99 * expected)
                if not oracle.is_even(hands, row, order - 1):
                    self.assertIsNone(greatest(hands, row, order))

    def test_two_that_have_no_turn(self):
        for order in (1, 2, 3, 4):
            self.assertEqual(of_two(3, (0,), 1, 2, order), 0)
            self.assertEqual(of_two(4, FOUR, 2, 3, order, bound=99), 0)

    def test_two_that_are_not_even_so_far(self):
        for bound in (0, 1, 99):
            self.assertIsNone(of_two(2, (0,), 0, 1, 1, bound=bound))
            self.assertIsNone(of_two(2, (0, 0, 1, 1), 0, 1, 2, bound=bound))
            self.assertIsNone(of_two(2, FOUR, 1, 0, 3, bound=bound))
            self.assertIsNone(of_two(2, EIGHT, 1, 0, 4, bound=bound))
            self.assertIsNone(of_two(3, FOUR, 0, 2, 1, bound=bound))

    def test_all_short_rows_and_the_other_way_about(self):
        for hands, row in oracle.some_rows():
            for one, other in combinations(range(hands), 2):
                for order in (1, 2, 3, 4):
                    found = of_two(hands, row, one, other, order)
                    self.assertEqual(found, oracle.greatest_of_two(row, one, other, order, 1))
                    self.assertEqual(of_two(hands, row, other, one, order), found)

    def test_never_passed_and_met_at_any_worths_within_the_bound(self):
        for order, bound, most, firsts in (
                (1, 1, 6, (-2, 0, 3)), (1, 2, 4, (-1, 5)), (2, 1, 6, (-2, 1)), (2, 2, 4, (-3, 0)),
                (3, 1, 8, (0, 1)), (4, 1, 4, (-1, 0, 1))):
            for hands, row in oracle.some_rows():
                if len(row) > most or order == 3 and len(row) == 7:
                    continue
                for one, other in combinations(range(hands), 2):
                    found = of_two(hands, row, one, other, order, bound=bound)
                    if found is not None:
                        leads = [lead(hands, row, one, other, worths)
                                 for worths in oracle.worths_within(len(row), order, bound, firsts)]
                        self.assertEqual((max(leads), min(leads)), (found, -found))

    def test_where_there_is_none_the_lead_grows_with_smooth_worths(self):
        for hands, row in oracle.some_rows():
            for one, other in combinations(range(hands), 2):
                for order in (1, 2, 3, 4):
                    if of_two(hands, row, one, other, order) is None:
                        leads = [abs(lead(hands, row, one, other, oracle.powers(len(row), power)))
                                 for power in range(order)]
                        self.assertGreater(max(leads), 0)

    def test_refused(self):
        self.refuses(NoHands, lambda hands: of_two(hands, (0, 1), 0, 1, 1), no_hands())
        self.refuses(NoRow, lambda row: of_two(2, row, 0, 1, 1), no_rows_of_two())
        self.refuses(NoHand, lambda two: of_two(2, (0, 1), *two, 1), no_two_hands())
        self.refuses(NoOrder, lambda order: of_two(2, (0, 1), 0, 1, order), no_lead_orders())
        self.refuses(NoOrder, lambda order: of_two(2, (0,), 0, 1, order), no_lead_orders())
        self.refuses(NoBound, lambda bound: of_two(2, (0, 1), 0, 1, 1, bound=bound), no_bounds())
        self.refuses(NoBound, lambda bound: of_two(2, (0,), 0, 1, 1, bound=bound), no_bounds())

    def test_the_first_refusal_is_told(self):
        self.refuses_first(lambda *told: of_two(*told[:5], bound=told[5]), FIRST_REFUSALS + [
            (2, (0,), 0, 1, 1, -1, NoBound)])


FIRST_REFUSALS = [
    (5, (), 9, 9, 0, -1, NoHands), (True, (0, 1), 0, 1, 1, 1, NoHands), (None, [], None, None, None, None, NoHands),
    (2, [0, 1], 0, 0, 0, -1, NoRow), (2, (0, True), 0, 1, 5, True, NoRow), (2, TOO_LONG, 0, 1, 1, 1, NoRow),
    (2, (0, 1), 0, 0, 0, -1, NoHand), (2, (0, 1), True, 0, 5, 1, NoHand), (2, (0, 1), 0, 2, True, None, NoHand),
    (2, (0, 1), 0, 1, 0, -1, NoOrder), (2, (0,), 0, 1, True, 100, NoOrder), (2, (0, 1), 0, 1, "1", 1, NoOrder),
    (2, (0, 1), 0, 1, 1, True, NoBound), (2, (0, 1), 0, 1, 1, None, NoBound),
]


class WorstTest(Refusing, unittest.TestCase):

    def test_place_by_place_at_odd_and_even_orders(self):
        for row, order, expected in (
                ((0, 1), 1, (0, -1)), ((0, 0, 1, 1), 1, (0, -1, -2, -3)), (FOUR, 1, (0, -1, -1, 0)),
                (FOUR, 2, (0, 0, 1, 3)), (EIGHT, 1, (0, -1, -1, 0, 0, 1, 1, 0)),
                (EIGHT, 2, (0, 0, 1, 3, 5, 7, 8, 8)), (EIGHT, 3, (0, 0, 0, -1, -4, -10, -20, -35)),
                (SIXTEEN, 4, tuple(place * (place - 1) * (place - 2) * (place - 3) // 24 for place in range(16)))):
            with self.subTest((row, order)):
                self.assertEqual(worst(2, row, 0, 1, order), expected)
                for bound in (0, 1, 2, 99):
                    made = tuple(bound * worth for worth in expected)
                    self.assertEqual(worst(2, row, 0, 1, order, bound=bound), made)
                    other_way = tuple(-worth for worth in made)
                    self.assertEqual(worst(2, row, 1, 0, order, bound=bound), other_way)

    def test_of_three_hands(self):
        self.assertEqual(worst(3, (0, 1, 2), 0, 2, 1), (0, -1, -2))
        self.assertEqual(worst(3, (0, 1, 2), 0, 1, 1, bound=5), (0, -5, -5))
        self.assertEqual(worst(3, (0, 1, 2), 2, 1, 1, bound=5), (0, 0, 5))
        self.assertEqual(worst(3, SIX, 0, 2, 2), (0, 0, 1, 3, 6, 10))

    def test_two_that_are_even_while_the_row_is_not(self):
        self.assertEqual(worst(3, (2, 0, 1), 0, 1, 1), (0, 0, -1))
        self.assertEqual(worst(4, (0, 1, 1, 0, 3), 0, 1, 2, bound=3), (0, 0, 3, 9, 15))

    def test_as_many_places_as_the_order_or_fewer(self):
        for order in (1, 2, 3, 4):
            for places in range(1, order + 1):
                self.assertEqual(worst(3, (0,) * places, 1, 2, order, bound=99), (0,) * places)
                self.assertEqual(worst(4, (3,) * places, 2, 0, order), (0,) * places)
            self.assertEqual(worst(3, (0,) * (order + 3), 2, 1, order), (0,) * (order + 3))
        self.assertEqual(worst(2, (1, 0), 0, 1, 1), (0, 1))

    def test_by_its_words_and_at_them_the_lead_is_the_greatest(self):
        for hands, row in oracle.some_rows():
            for one, other in permutations(range(hands), 2):
                for order in (1, 2, 3, 4):
                    expected = of_two(hands, row, one, other, order, bound=3)
                    if expected is None:
                        continue
                    found = worst(hands, row, one, other, order, bound=3)
                    self.assertIs(type(found), tuple)
                    self.assertEqual(len(found), len(row))
                    self.assertFalse(any(found[:order]))
                    ways = [(gap > 0) - (gap < 0) for gap in oracle.leads_of_gaps(row, one, other, order)]
                    self.assertEqual(oracle.differences(found, order), [3 * way for way in ways])
                    self.assertEqual(lead(hands, row, one, other, found), expected)

    def test_64_places(self):
        row = turns_by_bits(64)
        for order in (1, 2, 3, 4):
            for one, other in ((0, 1), (1, 0)):
                found = worst(2, row, one, other, order, bound=99)
                self.assertEqual(lead(2, row, one, other, found), greatest(2, row, order, bound=99))
                self.assertEqual(lead(2, row, other, one, found), -greatest(2, row, order, bound=99))

    def test_the_bound_is_1_where_none_is_told(self):
        self.assertEqual(worst(2, FOUR, 0, 1, 2), worst(2, FOUR, 0, 1, 2, bound=1))

    def test_told_twice_are_two_tuples(self):
        first = worst(2, FOUR, 0, 1, 2)
        self.assertEqual(worst(2, FOUR, 0, 1, 2), first)
        self.assertIsNot(worst(2, FOUR, 0, 1, 2), first)

    def test_refused(self):
        self.refuses(NoHands, lambda hands: worst(hands, (0, 1), 0, 1, 1), no_hands())
        self.refuses(NoRow, lambda row: worst(2, row, 0, 1, 1), no_rows_of_two())
        self.refuses(NoHand, lambda two: worst(2, (0, 1), *two, 1), no_two_hands())
        self.refuses(NoOrder, lambda order: worst(2, (0, 1), 0, 1, order), no_lead_orders())
        self.refuses(NoBound, lambda bound: worst(2, (0, 1), 0, 1, 1, bound=bound), no_bounds())

    def test_not_even_so_far(self):
        for hands, row, one, other, order in (
                (2, (0,), 0, 1, 1), (2, (0, 1, 0), 0, 1, 1), (2, (0, 1), 0, 1, 2), (2, (0, 0, 1, 1), 1, 0, 2),
                (2, FOUR, 0, 1, 3), (2, EIGHT, 0, 1, 4), (3, FOUR, 0, 2, 1), (4, (0, 1, 2, 3), 2, 3, 2)):
            for bound in (0, 1, 99):
                with self.subTest((hands, row, one, other, order)), self.assertRaises(NotEven):
                    worst(hands, row, one, other, order, bound=bound)

    def test_not_even_just_where_two_have_no_greatest_lead(self):
        for hands, row in oracle.some_rows()[::3]:
            for one, other in combinations(range(hands), 2):
                for order in (1, 2, 3, 4):
                    if of_two(hands, row, one, other, order) is None:
                        with self.assertRaises(NotEven):
                            worst(hands, row, one, other, order)
                    else:
                        worst(hands, row, one, other, order)

    def test_the_first_refusal_is_told(self):
        self.refuses_first(lambda *told: worst(*told[:5], bound=told[5]), FIRST_REFUSALS + [
            (2, (0,), 0, 0, 1, 1, NoHand), (2, (0,), 0, 1, 0, 1, NoOrder), (2, (0,), 0, 1, 1, 100, NoBound),
            (2, (0,), 0, 1, 1, Prickly(), NoBound), (2, (0,), 0, 1, 1, 1, NotEven)])


if __name__ == "__main__":
    unittest.main()
