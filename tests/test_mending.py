import unittest
from itertools import product

from evenrows.errors import NoDegree, NoHands, NoOrder, NoPlaces, NoRow, TooLong
from evenrows.leads import greatest
from evenrows.mending import exchanged, mended, mended_on, nearest
from tests import oracle
from tests.test_leads import no_lead_orders
from tests.test_rows import LONGEST, TOO_LONG, no_hands, no_rows_of_two
from tests.test_sums import EIGHT, FOUR, turns_by_bits
from tests.wrong import Prickly, Refusing, no_numbers

MOST_NEAREST = {2: 12, 3: 8, 4: 6}


def rows_to_mend():
    """All short rows, and some longer ones that are mended by higher orders."""
    return oracle.some_rows() + [
        (2, turns_by_bits(16)), (2, (0, 1) * 8), (2, (0,) * 8 + (1,) * 8), (2, (0, 0, 1, 1) * 4),
        (2, oracle.swapped(turns_by_bits(16), 2, 3)), (2, oracle.swapped(turns_by_bits(16), 0, 15)),
        (2, (0, 1, 0, 0, 0, 1, 1, 1, 0, 1)), (2, (0, 0, 1, 0, 1, 1, 1, 0, 1, 0, 0, 1)),
        (3, (0, 1, 2, 2, 0, 1)), (3, (0, 0, 1, 1, 2, 2, 2, 1, 0)), (3, (0, 1, 2) * 5), (3, (0, 2, 1, 2, 1, 0)),
        (4, (0, 1, 2, 3) * 2), (4, (0, 1, 2, 3, 3, 2, 0, 1)), (4, (0, 0, 1, 1, 2, 2, 3, 3) * 2),
    ]


def no_two_places():
    """Pairs that are no two places of a row of 4."""
    wrong = [-1, -4, 4, 5, 64, 2 ** 64, -(10 ** 5000), 10 ** 5000] + no_numbers()
    alike = [(place, place) for place in range(4)]
    return alike + [(thing, 0) for thing in wrong] + [(1, thing) for thing in wrong]


class ExchangedTest(Refusing, unittest.TestCase):

    def test_by_hand(self):
        self.assertEqual(exchanged(2, (0, 1), 0, 1), (1, 0))
        self.assertEqual(exchanged(4, (3, 0, 1, 2), 0, 2), (1, 0, 3, 2))
        self.assertEqual(exchanged(4, (3, 0, 1, 2), 3, 1), (3, 2, 1, 0))

    def test_places_of_the_same_hand(self):
        self.assertEqual(exchanged(2, FOUR, 0, 3), FOUR)
        self.assertEqual(exchanged(3, (2, 2), 1, 0), (2, 2))

    def test_all_two_places(self):
        for hands, row in oracle.some_rows()[::5]:
            for one, other in product(range(len(row)), repeat=2):
                if one != other:
                    found = exchanged(hands, row, one, other)
                    self.assertIs(type(found), tuple)
                    self.assertEqual(found, oracle.swapped(row, one, other))
                    self.assertEqual(exchanged(hands, found, one, other), row)

    def test_64_places(self):
        self.assertEqual(exchanged(2, LONGEST, 0, 63), (1,) + LONGEST[1:63] + (0,))
        with self.assertRaises(NoPlaces):
            exchanged(2, LONGEST, 0, 64)

    def test_told_is_a_new_tuple(self):
        row = (0, 1, 1, 0)
        self.assertIsNot(exchanged(2, row, 0, 3), row)
        self.assertIsNot(exchanged(2, row, 0, 1), exchanged(2, row, 0, 1))
        self.assertEqual(row, FOUR)

    def test_refused(self):
        self.refuses(NoHands, lambda hands: exchanged(hands, (0, 1), 0, 1), no_hands())
        self.refuses(NoRow, lambda row: exchanged(2, row, 0, 1), no_rows_of_two())
        self.refuses(NoPlaces, lambda two: exchanged(2, FOUR, *two), no_two_places())
        self.refuses(NoPlaces, lambda two: exchanged(2, (0,), *two), [(0, 0), (0, 1), (1, 0), (False, True)])

    def test_the_first_refusal_is_told(self):
        self.refuses_first(exchanged, [
            (5, (), 0, 0, NoHands), (True, (0, 1), 0, 1, NoHands), (None, None, None, None, NoHands),
            (2, [0, 1], 0, 0, NoRow), (2, (0, True), 0, 2, NoRow), (2, TOO_LONG, 0, 65, NoRow),
            (2, (0, 1), 0, 2, NoPlaces), (2, (0, 1), True, 0, NoPlaces), (2, (0, 1), 0, True, NoPlaces)])


class MendedTest(Refusing, unittest.TestCase):

    def test_by_hand(self):
        for hands, row, order, expected in (
                (2, (0, 0, 1, 1), 1, (0, 2, 2)), (2, (0, 0, 1, 1), 2, (0, 2, 2)), (2, (0, 1), 1, None),
                (2, (0, 1, 0, 1), 1, None), (2, FOUR, 1, None), (2, FOUR, 2, None),
                (2, (0, 0, 0, 1, 1, 1), 1, (0, 4, 3)), (3, (0, 0, 1, 1, 2, 2), 1, (0, 5, 3)),
                (2, (0, 0, 1, 0, 1, 0, 1, 1), 3, (1, 6, 8)),
                (2, (0, 0, 1, 0, 1, 0, 1, 1), 4, None)):
            with self.subTest((hands, row, order)):
                found = mended(hands, row, order)
                self.assertEqual(found, oracle.mended(hands, row, order))
                self.assertEqual(found, expected)

    def test_held_against_all_exchanges(self):
        for hands, row in rows_to_mend():
            for order in (1, 2, 3, 4):
                found = mended(hands, row, order)
                self.assertEqual(found, oracle.mended(hands, row, order), (hands, row, order))
                self.assertIn(type(found), (tuple, type(None)))

    def test_the_first_of_several(self):
        # All four exchanges mend the row alike.
        row = (0, 0, 1, 1)
        leads = {(one, other): greatest(2, exchanged(2, row, one, other), 1) for one in (0, 1) for other in (2, 3)}
        self.assertEqual(leads, {(0, 2): 2, (0, 3): 2, (1, 2): 2, (1, 3): 2})
        self.assertEqual(mended(2, row, 1), (0, 2, 2))

    def test_none_where_none_gives_a_lesser_greatest_lead(self):
        # The best exchange gives a greatest lead as great as before.
        row = (0, 1, 1, 0)
        self.assertEqual(greatest(2, row, 1), 2)
        self.assertEqual(min(greatest(2, exchanged(2, row, one, other), 1)
                             for one, other in ((0, 1), (0, 2), (1, 3), (2, 3))), 2)
        self.assertIsNone(mended(2, row, 1))

    def test_none_where_there_is_no_exchange_or_none_gives_a_greatest_lead(self):
        for order in (1, 2, 3, 4):
            self.assertIsNone(mended(2, (0,), order))
            self.assertIsNone(mended(4, (3,) * 16, order))
            self.assertIsNone(mended(2, (0, 1, 0), order))
            self.assertIsNone(mended(3, (0, 1, 1, 0), order))

    def test_of_a_row_that_had_none(self):
        for hands, row, order, expected in (
                (2, (0, 1, 0, 1, 1, 0, 1, 0), 2, None), (2, oracle.swapped(EIGHT, 0, 1), 3, (0, 1, 8)),
                (2, oracle.swapped(EIGHT, 3, 7), 3, (3, 7, 8)), (3, (0, 1, 2, 2, 0, 1), 2, (0, 1, 6)),
                (2, oracle.swapped(turns_by_bits(16), 2, 3), 4, (2, 3, 64)),
                (2, oracle.swapped(turns_by_bits(16), 14, 15), 4, (14, 15, 64))):
            with self.subTest((hands, row, order)):
                self.assertEqual(mended(hands, row, order), expected)
                if expected is not None:
                    self.assertIsNone(greatest(hands, row, order))

    def test_of_a_row_that_had_none_the_least_of_those_that_give_one(self):
        row = (0, 0, 1, 0, 0, 1, 1, 1)
        self.assertIsNone(greatest(2, row, 2))
        self.assertEqual(greatest(2, exchanged(2, row, 0, 6), 2), 8)
        self.assertEqual(mended(2, row, 2), (1, 7, 4))

    def test_the_first_of_several_of_a_row_that_had_none(self):
        many = 0
        for row in oracle.rows(2, 8):
            if greatest(2, row, 2) is None and mended(2, row, 2) is not None:
                leads = {(one, other): greatest(2, exchanged(2, row, one, other), 2)
                         for one in range(8) for other in range(one + 1, 8) if row[one] != row[other]}
                least = min(lead for lead in leads.values() if lead is not None)
                best = [two for two in leads if leads[two] == least]
                many += len(best) > 1
                self.assertEqual(mended(2, row, 2), min(best) + (least,))
        self.assertGreater(many, 0)

    def test_told_twice_are_two_tuples(self):
        self.assertIsNot(mended(2, (0, 0, 1, 1), 1), mended(2, (0, 0, 1, 1), 1))

    def test_refused(self):
        self.refuses(NoHands, lambda hands: mended(hands, (0, 1), 1), no_hands())
        self.refuses(NoRow, lambda row: mended(2, row, 1), no_rows_of_two())
        self.refuses(NoOrder, lambda order: mended(2, (0, 1), order), no_lead_orders())
        self.refuses(TooLong, lambda places: mended(2, LONGEST[:places], 1), range(17, 65))

    def test_16_places_are_just_taken(self):
        self.assertEqual(mended(2, (0,) * 8 + (1,) * 8, 1), oracle.mended(2, (0,) * 8 + (1,) * 8, 1))
        self.assertEqual(mended(4, (0,) * 15 + (1,), 1), None)
        self.assertIsNotNone(mended(4, (0,) * 4 + (1,) * 4 + (2,) * 4 + (3,) * 4, 1))

    def test_the_first_refusal_is_told(self):
        self.refuses_first(mended, FIRST_REFUSALS)


FIRST_REFUSALS = [
    (5, (), 0, NoHands), (True, (0, 1), 1, NoHands), (None, None, None, NoHands), (1, LONGEST, 5, NoHands),
    (2, [0, 1], 0, NoRow), (2, (0, True), 1, NoRow), (2, TOO_LONG, 5, NoRow), (3, (0, 3) * 9, True, NoRow),
    (2, LONGEST, 0, NoOrder), (2, LONGEST, True, NoOrder), (2, (0, 1), 5, NoOrder), (2, LONGEST[:17], None, NoOrder),
    (2, LONGEST[:17], Prickly(), NoOrder), (2, LONGEST[:17], 4, TooLong),
]


class MendedOnTest(Refusing, unittest.TestCase):

    def test_by_hand(self):
        self.assertEqual(mended_on(2, (0, 0, 1, 1), 1), [(0, 2, 2)])
        self.assertEqual(mended_on(2, (0, 0, 0, 1, 1, 1), 1), [(0, 4, 3)])
        self.assertEqual(mended_on(2, (0, 0, 0, 0, 1, 1, 1, 1), 1), [(0, 6, 6), (2, 4, 4)])
        self.assertEqual(mended_on(2, (0,) * 8 + (1,) * 8, 1), [(0, 14, 38), (2, 12, 20), (4, 10, 10), (6, 8, 8)])
        for hands, row, order in ((2, (0,), 1), (2, (0, 1), 1), (2, FOUR, 2), (2, (0, 1, 0), 4), (4, (3, 3), 1)):
            self.assertEqual(mended_on(hands, row, order), [])

    def test_till_no_exchange_mends(self):
        for hands, row in rows_to_mend():
            for order in (1, 2, 3, 4):
                expected, line = [], row
                mend = oracle.mended(hands, line, order)
                while mend is not None:
                    expected.append(mend)
                    line = oracle.swapped(line, mend[0], mend[1])
                    mend = oracle.mended(hands, line, order)
                found = mended_on(hands, row, order)
                self.assertIs(type(found), list)
                self.assertEqual(found, expected)

    def test_each_gives_a_lesser_greatest_lead_than_the_one_ahead(self):
        most = 0
        for hands, row in rows_to_mend():
            found = mended_on(hands, row, 1)
            leads = [lead for _, _, lead in found]
            self.assertEqual(leads, sorted(set(leads), reverse=True))
            most = max(most, len(found))
        self.assertGreater(most, 2)

    def test_from_a_row_that_had_none_on(self):
        found = mended_on(2, (0, 0, 1, 0, 1, 1, 0, 1), 2)
        self.assertEqual(found[0], (1, 5, 4))
        self.assertIsNone(greatest(2, (0, 0, 1, 0, 1, 1, 0, 1), 2))

    def test_told_twice_are_two_lists(self):
        row = (0, 0, 0, 1, 1, 1)
        first = mended_on(2, row, 1)
        first.append(9)
        first[0] = 7
        self.assertEqual(mended_on(2, row, 1), [(0, 4, 3)])
        self.assertEqual(row, (0, 0, 0, 1, 1, 1))
        mended_on(2, FOUR, 2).append(1)
        self.assertEqual(mended_on(2, FOUR, 2), [])

    def test_refused(self):
        self.refuses(NoHands, lambda hands: mended_on(hands, (0, 1), 1), no_hands())
        self.refuses(NoRow, lambda row: mended_on(2, row, 1), no_rows_of_two())
        self.refuses(NoOrder, lambda order: mended_on(2, (0, 1), order), no_lead_orders())
        self.refuses(TooLong, lambda places: mended_on(2, LONGEST[:places], 1), range(17, 65))

    def test_the_first_refusal_is_told(self):
        self.refuses_first(mended_on, FIRST_REFUSALS)


class NearestTest(Refusing, unittest.TestCase):

    def test_by_hand(self):
        for hands, row, degree, expected in (
                (2, (0, 0), 0, ((0, 1), 1)), (2, (1, 1), 0, ((0, 1), 1)), (2, (0, 1), 0, ((0, 1), 0)),
                (2, (0, 1, 0, 1), 1, (FOUR, 2)), (2, (1, 1, 1, 1), 1, (FOUR, 2)), (2, (1, 0, 1, 1), 1, ((1, 0, 0, 1), 1)),
                (2, (0,) * 8, 2, (EIGHT, 4)), (3, (2, 2, 2), 0, ((0, 1, 2), 2)), (3, (0, 1, 1, 0), 0, None),
                (3, (0, 1, 2, 0, 1, 2), 1, ((0, 1, 2, 2, 1, 0), 2)), (4, (3, 2, 1, 1), 0, ((3, 2, 0, 1), 1)),
                (2, (0, 1), 1, None), (2, FOUR, 2, None), (2, (0,), 0, None), (4, (0, 1, 2, 3), 1, None)):
            with self.subTest((hands, row, degree)):
                self.assertEqual(nearest(hands, row, degree), expected)

    def test_held_against_all_rows_gone_through(self):
        for hands, row in oracle.some_rows():
            if len(row) > {2: 6, 3: 5, 4: 4}[hands]:
                continue
            for degree in (0, 1, 2):
                found = nearest(hands, row, degree)
                self.assertEqual(found, oracle.nearest(hands, row, degree), (hands, row, degree))
                self.assertIn(type(found), (tuple, type(None)))

    def test_held_against_all_rows_at_more_places(self):
        for hands, row in ((2, (0,) * 8), (2, (0, 0, 1, 0, 1, 1, 1, 1)), (2, (1, 0) * 4), (2, (1, 0, 0, 0, 1, 1, 0, 1)),
                           (2, (0, 1, 1, 1, 0, 0, 0, 1, 1, 0)), (2, (0, 1, 1, 1, 0, 0, 0, 1, 1, 0, 1, 1)),
                           (2, (1,) * 12), (3, (2, 1, 1, 0, 2, 2)), (3, (1,) * 6), (4, (0, 1, 2, 3, 3, 2))):
            for degree in (0, 1, 2):
                with self.subTest((hands, row, degree)):
                    self.assertEqual(nearest(hands, row, degree), oracle.nearest(hands, row, degree))

    def test_the_first_of_several(self):
        near = [row for row in oracle.rows(2, 4) if oracle.is_even(2, row, 0) and oracle.unlike(row, (0, 0, 0, 0)) == 2]
        self.assertEqual(len(near), 6)
        self.assertEqual(nearest(2, (0, 0, 0, 0), 0), (near[0], 2))
        self.assertEqual(near[0], (0, 0, 1, 1))

    def test_an_even_row_is_its_own(self):
        for hands, row in oracle.some_rows() + [(2, EIGHT), (2, FOUR * 3), (3, (0, 1, 2, 2, 1, 0))]:
            for degree in (0, 1, 2):
                if len(row) <= MOST_NEAREST[hands] and oracle.is_even(hands, row, degree):
                    self.assertEqual(nearest(hands, row, degree), (row, 0))

    def test_none_where_there_is_none(self):
        for places in (1, 2, 3, 5, 6, 7, 9, 10, 11):
            self.assertIsNone(nearest(2, LONGEST[:places], 2))
        for degree in (0, 1, 2):
            self.assertIsNone(nearest(3, (0, 1, 2, 0, 1, 2, 0, 1), degree))
            self.assertIsNone(nearest(4, (0, 1, 2, 3, 0, 1), degree))

    def test_told_is_a_new_tuple(self):
        row = (0, 1, 1, 0)
        self.assertIsNot(nearest(2, row, 1)[0], row)
        self.assertIsNot(nearest(2, row, 1), nearest(2, row, 1))
        self.assertIsNot(nearest(2, row, 1)[0], nearest(2, row, 1)[0])

    def test_most_places_are_just_taken(self):
        self.assertEqual(nearest(2, (0, 1) * 6, 0), ((0, 1) * 6, 0))
        self.assertEqual(nearest(2, (0,) * 12, 0), ((0,) * 6 + (1,) * 6, 6))
        self.assertIsNone(nearest(3, (0,) * 8, 2))
        self.assertIsNone(nearest(4, (3,) * 6, 2))

    def test_refused(self):
        self.refuses(NoHands, lambda hands: nearest(hands, (0, 1), 0), no_hands())
        self.refuses(NoRow, lambda row: nearest(2, row, 0), no_rows_of_two())
        wrong = [-1, 3, 4, 9, 10, 2 ** 64, -(10 ** 5000), 10 ** 5000] + no_numbers()
        self.refuses(NoDegree, lambda degree: nearest(2, (0, 1), degree), wrong)
        self.refuses(NoDegree, lambda degree: nearest(3, (0, 1), degree), wrong)
        for hands, most in MOST_NEAREST.items():
            self.refuses(TooLong, lambda places: nearest(hands, LONGEST[:places], 0), range(most + 1, 65))

    def test_the_first_refusal_is_told(self):
        self.refuses_first(nearest, [
            (5, (), -1, NoHands), (True, (0, 1), 0, NoHands), (None, None, None, NoHands), (1, LONGEST, 3, NoHands),
            (2, [0, 1], -1, NoRow), (2, (0, True), 0, NoRow), (2, TOO_LONG, 3, NoRow), (3, (0, 3) * 9, True, NoRow),
            (2, LONGEST, -1, NoDegree), (2, LONGEST, 3, NoDegree), (3, LONGEST[:9], True, NoDegree),
            (4, LONGEST[:7], None, NoDegree), (2, LONGEST[:13], 2, TooLong), (3, LONGEST[:9], 2, TooLong),
            (4, LONGEST[:7], 2, TooLong)])


if __name__ == "__main__":
    unittest.main()
