import unittest
from itertools import combinations, permutations, product

from evenrows.errors import NoBound, NoHand, NoHands, NoOrder, NoPlaces, NoRow, NoWorths, TooLong
from evenrows.foreseeing import calming, foreseen, straight_on
from evenrows.leads import of_two
from evenrows.rows import lead, totals
from tests import oracle
from tests.test_leads import no_bounds, no_lead_orders
from tests.test_rows import LONGEST, TOO_LONG, no_hands, no_rows_of_two, no_two_hands
from tests.test_smooth import no_worths
from tests.test_sums import EIGHT, FOUR, turns_by_bits
from tests.wrong import Prickly, Refusing, no_numbers

TOLD = (3, -1, 4, 1, -5, 9)


def tails(line, order):
    """By the words: each over all places from its own on."""
    for _ in range(order):
        line = [sum(line[place:]) for place in range(len(line))]
    return line


def orders_above(told):
    """Orders from 1 to 4 that are above how many worths are told."""
    return [order for order in (1, 2, 3, 4) if order > len(told)]


def cases(step):
    """Some short rows, each with all that can be told of its first places, and all orders."""
    return [
        (hands, row, many, order)
        for hands, row in oracle.some_rows()[::step]
        for many in range(1, min(len(row), len(TOLD)) + 1)
        for order in range(1, min(many, 4) + 1)
    ]


class StraightOnTest(Refusing, unittest.TestCase):

    def test_by_hand(self):
        for worths, places, order, expected in (
                ((7,), 4, 1, (7, 7, 7, 7)), ((3, 5), 5, 1, (3, 5, 5, 5, 5)), ((3, 5), 5, 2, (3, 5, 7, 9, 11)),
                ((1, 4, 9), 6, 3, (1, 4, 9, 16, 25, 36)), ((1, 4, 9), 5, 2, (1, 4, 9, 14, 19)),
                ((0, 1, 8, 27), 6, 4, (0, 1, 8, 27, 64, 125)), ((0, 1, 8, 27), 6, 3, (0, 1, 8, 27, 58, 101)),
                ((9, 9, 2, 4), 6, 2, (9, 9, 2, 4, 6, 8)), ((0, -5), 4, 2, (0, -5, -10, -15))):
            with self.subTest((worths, places, order)):
                self.assertEqual(straight_on(worths, places, order), expected)
                self.assertIs(type(straight_on(worths, places, order)), tuple)

    def test_as_many_places_as_worths(self):
        for many in range(1, 7):
            for order in range(1, min(many, 4) + 1):
                self.assertEqual(straight_on(TOLD[:many], many, order), TOLD[:many])

    def test_just_the_differences_that_reach_beyond_are_0(self):
        for many, order in product(range(1, 7), (1, 2, 3, 4)):
            for places in range(many, 13):
                if order <= many:
                    found = straight_on(TOLD[:many], places, order)
                    self.assertEqual(found[:many], TOLD[:many])
                    self.assertEqual(len(found), places)
                    self.assertFalse(any(oracle.differences(found, order)[many - order:]))
                    self.assertEqual(found, oracle.gone_on(TOLD[:many], (0,) * (places - many), order))

    def test_smooth_worths_go_on_as_they_are(self):
        for order in (1, 2, 3, 4):
            worths = tuple(5 * place ** (order - 1) - 2 * place + 7 if order > 1 else 7 for place in range(64))
            for many in range(order, 65):
                self.assertEqual(straight_on(worths[:many], 64, order), worths)

    def test_great_worths(self):
        self.assertEqual(straight_on((10 ** 5000, 0), 4, 2), (10 ** 5000, 0, -(10 ** 5000), -2 * 10 ** 5000))

    def test_from_as_many_places_as_worths_to_64(self):
        for many in range(1, 65):
            self.assertEqual(len(straight_on((5,) * many, 64, 1)), 64)
            for places in (-many, 0, many - 1, 65, 66):
                with self.assertRaises(NoPlaces):
                    straight_on((5,) * many, places, 1)
        for places in (1, 64, 65, 66):
            with self.assertRaises(NoPlaces):
                straight_on((5,) * 65, places, 1)

    def test_told_is_a_new_tuple(self):
        worths = (1, 2, 4)
        self.assertIsNot(straight_on(worths, 3, 1), worths)
        self.assertIsNot(straight_on(worths, 3, 1), straight_on(worths, 3, 1))
        self.assertEqual(worths, (1, 2, 4))

    def test_refused(self):
        self.refuses(NoWorths, lambda worths: straight_on(worths, 5, 1), no_worths())
        wrong = [-1, 0, 1, 65, 128, 2 ** 64, -(10 ** 5000), 10 ** 5000] + no_numbers()
        self.refuses(NoPlaces, lambda places: straight_on((1, 2), places, 1), wrong)
        self.refuses(NoOrder, lambda order: straight_on((1, 2, 3, 4, 5), 6, order), no_lead_orders())
        for many in (1, 2, 3):
            self.refuses(NoOrder, lambda order: straight_on(TOLD[:many], 6, order), orders_above(TOLD[:many]))
            self.refuses(NoOrder, lambda order: straight_on(TOLD[:many], many, order), orders_above(TOLD[:many]))

    def test_the_first_refusal_is_told(self):
        self.refuses_first(straight_on, [
            ((), 0, 0, NoWorths), ([1], 65, 5, NoWorths), ((1, True), 1, 3, NoWorths), (None, None, None, NoWorths),
            ((1, 2), 1, 0, NoPlaces), ((1, 2), 65, 3, NoPlaces), ((1, 2), True, None, NoPlaces),
            ((1, 2), Prickly(), Prickly(), NoPlaces), ((1, 2), 64, 3, NoOrder)])


class ForeseenTest(Refusing, unittest.TestCase):

    def test_by_hand(self):
        for hands, row, told, one, other, order, bound, expected in (
                (2, FOUR, (5,), 0, 1, 1, 1, (-2, 2)), (2, FOUR, (5,), 0, 1, 1, 10, (-20, 20)),
                (2, FOUR, (5, 7), 0, 1, 1, 1, (-3, -1)), (2, FOUR, (5, 7), 0, 1, 2, 1, (-2, 2)),
                (2, FOUR, (5, 7, 8), 0, 1, 1, 1, (-3, -1)), (2, FOUR, (5, 7, 8), 0, 1, 2, 3, (-4, 2)),
                (2, FOUR, (5, 7, 8), 0, 1, 3, 1, (-3, -1)), (2, (0, 1, 0, 0, 0), (0, 1), 0, 1, 2, 1, (-2, 18)),
                (3, (0, 1, 2, 0), (4,), 0, 2, 1, 2, (2, 6)), (3, (0, 1, 2, 0), (4,), 1, 2, 1, 2, (-2, 2))):
            with self.subTest((hands, row, told, one, other, order, bound)):
                found = foreseen(hands, row, told, one, other, order, bound=bound)
                self.assertEqual(found, expected)
                self.assertIs(type(found), tuple)
                turned = foreseen(hands, row, told, other, one, order, bound=bound)
                self.assertEqual(turned, (-expected[1], -expected[0]))

    def test_the_bound_is_1_where_none_is_told(self):
        for order in (1, 2):
            found = foreseen(2, FOUR, (5, 7), 0, 1, order)
            self.assertEqual(found, foreseen(2, FOUR, (5, 7), 0, 1, order, bound=1))

    def test_where_all_is_told_it_is_the_lead(self):
        for hands, row in oracle.some_rows():
            told = (5, -3, 8, 8, 1, 0, -90, 2 ** 70)[:len(row)]
            for one, other in combinations(range(hands), 2):
                for order in range(1, min(len(row), 4) + 1):
                    expected = lead(hands, row, one, other, told)
                    self.assertEqual(foreseen(hands, row, told, one, other, order, bound=99), (expected, expected))

    def test_with_bound_0_it_is_the_lead_straight_on(self):
        for hands, row, many, order in cases(3):
            expected = lead(hands, row, 1, 0, straight_on(TOLD[:many], len(row), order))
            self.assertEqual(foreseen(hands, row, TOLD[:many], 1, 0, order, bound=0), (expected, expected))

    def test_by_the_tails(self):
        for hands, row, many, order in cases(3):
            straight = lead(hands, row, 0, 1, straight_on(TOLD[:many], len(row), order))
            amounts = [abs(tail) for tail in tails(oracle.signs(row, 0, 1), order)]
            reach = 7 * sum(amounts[many:])
            found = foreseen(hands, row, TOLD[:many], 0, 1, order, bound=7)
            self.assertEqual(found, (straight - reach, straight + reach))
            self.assertEqual(found, oracle.foreseen(row, TOLD[:many], 0, 1, order, 7))

    def test_never_passed_and_met_by_worths_gone_on(self):
        most_beyond = {0: 4, 1: 5, 2: 3, 3: 2}
        for bound, (hands, row, many, order) in product(most_beyond, cases(5)):
            if len(row) - many > most_beyond[bound]:
                continue
            ends = [totals(hands, row, worths) for worths in oracle.all_gone_on(TOLD[:many], len(row), order, bound)]
            for one, other in permutations(range(hands), 2):
                leads = [end[one] - end[other] for end in ends]
                found = foreseen(hands, row, TOLD[:many], one, other, order, bound=bound)
                self.assertEqual(found, (min(leads), max(leads)))

    def test_just_the_worths_gone_on_are_tried(self):
        # The differences that lie within the worths told may be beyond the bound.
        found = list(oracle.all_gone_on((0, 50, 0), 5, 2, 1))
        self.assertEqual(len(found), 9)
        for worths in found:
            self.assertEqual(worths[:3], (0, 50, 0))
            gaps = oracle.differences(worths, 2)
            self.assertEqual(gaps[0], -100)
            self.assertTrue(all(-1 <= gap <= 1 for gap in gaps[1:]))
        self.assertEqual(foreseen(2, (0, 0, 0, 0, 1), (0, 50, 0), 0, 1, 2), (98, 102))

    def test_with_as_many_noughts_as_the_order_it_is_the_greatest_lead(self):
        for row in (FOUR, EIGHT, turns_by_bits(16), turns_by_bits(64), (0, 1, 0, 1), (0, 1, 1, 0, 1, 0)):
            for order in (1, 2, 3, 4):
                expected = of_two(2, row, 0, 1, order, bound=5)
                if expected is not None and len(row) > order:
                    found = foreseen(2, row, (0,) * order, 0, 1, order, bound=5)
                    self.assertEqual(found, (-expected, expected))

    def test_from_as_many_worths_told_as_the_order_on(self):
        for order in (1, 2, 3, 4):
            for many in range(order, 8):
                self.assertEqual(foreseen(3, (0,) * 8, (0,) * many, 1, 2, order, bound=99), (0, 0))
        self.assertEqual(foreseen(2, (0,), (5,), 0, 1, 1), (5, 5))

    def test_64_places(self):
        for hands, row in ((2, LONGEST), (2, turns_by_bits(64)), (4, (0, 1, 2, 3) * 16), (3, (2,) * 64)):
            for order in (1, 2, 3, 4):
                for many in (order, 5, 32, 63, 64):
                    told = (2 ** 64, -1, 0, -(10 ** 30)) * 16
                    found = foreseen(hands, row, told[:many], 1, 0, order, bound=99)
                    self.assertEqual(found, oracle.foreseen(row, told[:many], 1, 0, order, 99))

    def test_told_twice_are_two_tuples(self):
        self.assertIsNot(foreseen(2, FOUR, (5,), 0, 1, 1), foreseen(2, FOUR, (5,), 0, 1, 1))

    def test_refused(self):
        self.refuses(NoHands, lambda hands: foreseen(hands, (0, 1), (5,), 0, 1, 1), no_hands())
        self.refuses(NoRow, lambda row: foreseen(2, row, (5,), 0, 1, 1), no_rows_of_two())
        self.refuses(NoHand, lambda two: foreseen(2, (0, 1), (5,), *two, 1), no_two_hands())
        self.refuses(NoWorths, lambda told: foreseen(2, FOUR, told, 0, 1, 1), no_worths())
        more = [(5,) * many for many in (5, 6, 64, 65, 1000)]
        self.refuses(NoWorths, lambda told: foreseen(2, FOUR, told, 0, 1, 1), more)
        self.refuses(NoWorths, lambda told: foreseen(2, LONGEST, told, 0, 1, 1), more[3:])
        self.refuses(NoOrder, lambda order: foreseen(2, EIGHT, TOLD, 0, 1, order), no_lead_orders())
        for many in (1, 2, 3):
            self.refuses(NoOrder, lambda order: foreseen(2, EIGHT, TOLD[:many], 0, 1, order), orders_above(TOLD[:many]))
        self.refuses(NoBound, lambda bound: foreseen(2, FOUR, (5,), 0, 1, 1, bound=bound), no_bounds())
        self.refuses(NoBound, lambda bound: foreseen(2, (0,), (5,), 0, 1, 1, bound=bound), no_bounds())

    def test_the_first_refusal_is_told(self):
        self.refuses_first(lambda *told: foreseen(*told[:6], bound=told[6]), [
            (5, (), (), 9, 9, 0, -1, NoHands), (None, [], [], None, None, None, None, NoHands),
            (True, (0, 1), (5,), 0, 1, 1, 1, NoHands), (2, (0, 2), (), 0, 0, 0, -1, NoRow),
            (2, TOO_LONG, (5,) * 66, 0, 1, 1, 1, NoRow), (2, [0, 1], (5,), True, 0, 5, 1, NoRow),
            (2, (0, 1), (), 0, 0, 0, -1, NoHand), (2, (0, 1), (5, 6, 7), 0, 2, 1, 1, NoHand),
            (2, (0, 1), [5], True, 0, True, None, NoHand), (2, (0, 1), (), 0, 1, 0, -1, NoWorths),
            (2, (0, 1), (5, 6, 7), 0, 1, 5, -1, NoWorths), (2, (0, 1), (True,), 0, 1, 1, True, NoWorths),
            (2, (0, 1), (5,), 0, 1, 2, -1, NoOrder), (2, (0, 1), (5,), 0, 1, True, 100, NoOrder),
            (2, (0, 1), (5,), 0, 1, 1, True, NoBound)])


class CalmingTest(Refusing, unittest.TestCase):

    def test_by_hand(self):
        for hands, row, told, order, bound, expected in (
                (2, (0, 0, 1, 1), (0,), 1, 1, (1, 2, 2)), (2, (0, 0, 1, 1), (0, 0), 1, 1, None),
                (2, (0, 0, 0, 1, 1, 1), (2, 2), 1, 0, None), (2, (0, 0, 0, 1, 1, 1), (2, 4), 1, 1, (2, 4, 6)),
                (2, (0, 0, 0, 1, 1, 1), (2, 4), 2, 0, (2, 5, 6)), (3, (0, 0, 1, 1, 2, 2), (5,), 1, 1, (1, 4, 3)),
                (2, FOUR, (5,), 1, 1, None), (2, (0, 1, 0, 1), (0, 1), 2, 0, (2, 3, 0))):
            with self.subTest((hands, row, told, order, bound)):
                found = calming(hands, row, told, order, bound=bound)
                self.assertEqual(found, oracle.calming(hands, row, told, order, bound))
                self.assertEqual(found, expected)

    def test_by_trying_all(self):
        for hands, row, many, order in cases(11):
            for worths in (TOLD, (0,) * 6, (0, 2, 4, 6, 8, 10), (9, 4, 1, 0, 1, 4)):
                for bound in (0, 1, 4):
                    found = calming(hands, row, worths[:many], order, bound=bound)
                    expected = oracle.calming(hands, row, worths[:many], order, bound)
                    self.assertEqual(found, expected, (hands, row, worths[:many], order, bound))
                    self.assertIn(type(found), (tuple, type(None)))

    def test_by_trying_all_at_more_places(self):
        for hands, row in ((2, (0,) * 12 + (1,) * 12), (2, LONGEST[:24]), (3, (0, 1, 2) * 5),
                           (4, (0, 0, 1, 2, 3, 3) * 3)):
            for many, order in ((1, 1), (2, 2), (5, 3), (4, 4), (12, 2)):
                found = calming(hands, row, (TOLD * 2)[:many], order, bound=2)
                self.assertEqual(found, oracle.calming(hands, row, (TOLD * 2)[:many], order, 2))

    def test_behind_it_the_greatest_lead_foreseen_is_as_told(self):
        for hands, row, told in ((2, (0, 0, 1, 1, 0, 1), (3,)), (3, (0, 0, 1, 1, 2, 2), (5, 6)),
                                 (4, (0, 1, 2, 3) * 2, (9,))):
            one, other, expected = calming(hands, row, told, 1)
            self.assertLess(len(told) - 1, one)
            self.assertLess(one, other)
            self.assertNotEqual(row[one], row[other])
            leads = [foreseen(hands, oracle.swapped(row, one, other), told, *two, 1)[1]
                     for two in permutations(range(hands), 2)]
            self.assertEqual(max(leads), expected)
            self.assertLess(expected, max(foreseen(hands, row, told, *two, 1)[1]
                                          for two in permutations(range(hands), 2)))

    def test_the_first_of_several(self):
        # Both exchanges of the last turn of hand 0 calm the leads alike.
        row = (0, 0, 1, 1)
        leads = {other: oracle.most_foreseen(2, oracle.swapped(row, 1, other), (0,), 1, 1) for other in (2, 3)}
        self.assertEqual(leads, {2: 2, 3: 2})
        self.assertEqual(calming(2, row, (0,), 1), (1, 2, 2))

    def test_none_where_it_stays_as_great(self):
        self.assertEqual(oracle.most_foreseen(2, (0, 1), (0,), 1, 1), 1)
        for told in ((0,), (5,), (-5,), (5, 6)):
            self.assertIsNone(calming(2, (0, 1), told, 1))
        # To exchange the two last places turns the lead about, and leaves it as great.
        self.assertEqual(oracle.most_foreseen(2, (0, 1, 0), (1, 1), 1, 0), 1)
        self.assertIsNone(calming(2, (1, 0, 1), (1, 1), 1, bound=0))

    def test_none_where_no_two_places_are_left(self):
        for many in (3, 4):
            self.assertIsNone(calming(2, (0, 0, 1, 1), (5,) * many, 1, bound=99))
        self.assertIsNone(calming(2, (0,), (5,), 1))
        self.assertIsNone(calming(2, (0, 1, 1, 1), (5,), 1))

    def test_the_bound_is_1_where_none_is_told(self):
        self.assertEqual(calming(2, (0, 0, 1, 1), (0,), 1), calming(2, (0, 0, 1, 1), (0,), 1, bound=1))

    def test_24_places_are_just_taken(self):
        row = (0,) * 12 + (1,) * 12
        self.assertEqual(calming(2, row, (0,), 1), oracle.calming(2, row, (0,), 1, 1))
        self.assertIsNone(calming(4, (3,) * 24, (0,) * 24, 4))

    def test_told_twice_are_two_tuples(self):
        self.assertIsNot(calming(2, (0, 0, 1, 1), (0,), 1), calming(2, (0, 0, 1, 1), (0,), 1))

    def test_refused(self):
        self.refuses(NoHands, lambda hands: calming(hands, (0, 1), (5,), 1), no_hands())
        self.refuses(NoRow, lambda row: calming(2, row, (5,), 1), no_rows_of_two())
        self.refuses(NoWorths, lambda told: calming(2, FOUR, told, 1), no_worths())
        more = [(5,) * many for many in (5, 6, 64, 65, 1000)]
        self.refuses(NoWorths, lambda told: calming(2, FOUR, told, 1), more)
        self.refuses(NoOrder, lambda order: calming(2, EIGHT, TOLD, order), no_lead_orders())
        for many in (1, 2, 3):
            self.refuses(NoOrder, lambda order: calming(2, EIGHT, TOLD[:many], order), orders_above(TOLD[:many]))
        self.refuses(NoBound, lambda bound: calming(2, FOUR, (5,), 1, bound=bound), no_bounds())
        self.refuses(NoBound, lambda bound: calming(2, (0,), (5,), 1, bound=bound), no_bounds())
        self.refuses(TooLong, lambda places: calming(2, LONGEST[:places], (5,), 1), range(25, 65))

    def test_the_first_refusal_is_told(self):
        self.refuses_first(lambda *told: calming(*told[:4], bound=told[4]), [
            (5, (), (), 0, -1, NoHands), (None, [], [], None, None, NoHands), (True, LONGEST, (), 0, -1, NoHands),
            (2, (0, 2), (), 0, -1, NoRow), (2, TOO_LONG, (5,) * 66, 1, 1, NoRow), (2, (0, True), [], 5, 1, NoRow),
            (2, LONGEST, (), 0, -1, NoWorths), (2, LONGEST, (5,) * 65, 5, 1, NoWorths),
            (2, (0, 1), (1, True), True, None, NoWorths), (2, LONGEST, (5,), 2, -1, NoOrder),
            (2, LONGEST, (5,), 0, 1, NoOrder), (2, LONGEST[:25], (5,), None, 100, NoOrder),
            (2, LONGEST, (5,), 1, -1, NoBound), (2, LONGEST[:25], (5,), 1, True, NoBound),
            (2, LONGEST[:25], (5,), 1, 99, TooLong)])


if __name__ == "__main__":
    unittest.main()
