import unittest
from itertools import product

from evenrows.counting import counted, moments, spread
from evenrows.errors import NoDegree, NoHands, NoOrder, NoPlaces, NoRow
from evenrows.leads import greatest
from evenrows.searching import calmest
from evenrows.sums import is_even
from tests import oracle
from tests.test_leads import no_lead_orders
from tests.test_rows import LONGEST, TOO_LONG, no_hands, no_rows_of_two
from tests.test_smooth import no_order
from tests.test_sums import EIGHT, FOUR, turns_by_bits
from tests.wrong import Prickly, Refusing, no_numbers

MOST_COUNTED = {2: 12, 3: 8, 4: 6}
MOST_SPREAD = {2: 10, 3: 6, 4: 5}


def no_places(most):
    """What is no number of places from 1 to the most."""
    return [0, -1, most + 1, most + 2, 13, 64, 2 ** 64, -(10 ** 5000), 10 ** 5000] + no_numbers()


class MomentsTest(Refusing, unittest.TestCase):

    def test_by_hand(self):
        for hands, row, degree, expected in (
                (2, FOUR, 0, [[2], [2]]), (2, FOUR, 1, [[2, 3], [2, 3]]), (2, FOUR, 2, [[2, 3, 9], [2, 3, 5]]),
                (2, (0,), 3, [[1, 0, 0, 0], [0, 0, 0, 0]]), (2, (1, 1), 2, [[0, 0, 0], [2, 1, 1]]),
                (3, (2, 0, 0, 2), 3, [[2, 3, 5, 9], [0, 0, 0, 0], [2, 3, 9, 27]]),
                (4, (3, 2, 1, 0), 1, [[1, 3], [1, 2], [1, 1], [1, 0]])):
            with self.subTest((hands, row, degree)):
                self.assertEqual(moments(hands, row, degree), expected)

    def test_0_to_the_0_is_1(self):
        self.assertEqual(moments(2, (0, 1), 0), [[1], [1]])
        self.assertEqual(moments(2, (1, 0), 1), [[1, 1], [1, 0]])

    def test_all_short_rows(self):
        for hands, row in oracle.some_rows()[::3]:
            for degree in range(10):
                self.assertEqual(moments(hands, row, degree), oracle.moments(hands, row, degree))

    def test_64_places(self):
        for hands, row in ((2, LONGEST), (3, (2,) * 64), (4, (3, 1, 0, 2) * 16)):
            self.assertEqual(moments(hands, row, 9), oracle.moments(hands, row, 9))
        self.assertEqual(moments(4, (3,) * 64, 9)[3][9], sum(place ** 9 for place in range(64)))

    def test_a_row_is_even_just_if_all_hands_have_the_same(self):
        rows = oracle.some_rows() + [(2, EIGHT * 2), (2, turns_by_bits(16)), (3, (0, 1, 2, 2, 1, 0)), (3, (0, 1, 2))]
        for hands, row in rows:
            for degree in range(5):
                found = moments(hands, row, degree)
                alike = all(line == found[0] for line in found)
                self.assertIs(is_even(hands, row, degree), alike)

    def test_told_lists_are_new_and_shared_with_nobody(self):
        found = moments(3, (0, 1, 2), 1)
        found[0].append(9)
        found[1][0] = 7
        found.pop()
        self.assertEqual(found, [[1, 0, 9], [7, 1]])
        self.assertEqual(moments(3, (0, 1, 2), 1), [[1, 0], [1, 1], [1, 2]])
        empty = moments(4, (0,), 2)
        empty[1].append(5)
        self.assertEqual(empty, [[1, 0, 0], [0, 0, 0, 5], [0, 0, 0], [0, 0, 0]])

    def test_refused(self):
        self.refuses(NoHands, lambda hands: moments(hands, (0, 1), 1), no_hands())
        self.refuses(NoRow, lambda row: moments(2, row, 1), no_rows_of_two())
        self.refuses(NoDegree, lambda degree: moments(2, (0, 1), degree), no_order())

    def test_the_first_refusal_is_told(self):
        self.refuses_first(moments, [
            (5, (), -1, NoHands), (None, None, None, NoHands), (True, (0, 1), 0, NoHands), (2, [0, 1], 10, NoRow),
            (2, (0, True), None, NoRow), (2, TOO_LONG, 0, NoRow), (3, (0, 3), True, NoRow), (2, (0, 1), 10, NoDegree),
            (2, (0, 1), True, NoDegree), (2, (0, 1), Prickly(), NoDegree)])


class CountedTest(Refusing, unittest.TestCase):

    def test_by_hand(self):
        for hands, places, degree, expected in (
                (2, 1, 0, 0), (2, 2, 0, 2), (2, 2, 1, 0), (2, 4, 0, 6), (2, 4, 1, 2), (2, 4, 2, 0), (2, 8, 0, 70),
                (2, 8, 2, 2), (2, 12, 0, 924), (2, 12, 3, 0), (3, 3, 0, 6), (3, 6, 0, 90), (3, 6, 1, 6), (3, 8, 0, 0),
                (4, 4, 0, 24), (4, 6, 0, 0)):
            with self.subTest((hands, places, degree)):
                self.assertEqual(counted(hands, places, degree), expected)
                self.assertIs(type(counted(hands, places, degree)), int)

    def test_all_rows_gone_through(self):
        for hands, most in MOST_COUNTED.items():
            for places in range(1, most + 1):
                expected = [0] * 4
                for row in oracle.rows(hands, places):
                    found = oracle.moments(hands, row, 3)
                    for degree in range(4):
                        expected[degree] += all(line[:degree + 1] == found[0][:degree + 1] for line in found)
                self.assertEqual([counted(hands, places, degree) for degree in range(4)], expected, (hands, places))

    def test_refused(self):
        self.refuses(NoHands, lambda hands: counted(hands, 4, 1), no_hands())
        wrong = [-1, 4, 5, 9, 10, 2 ** 64, -(10 ** 5000), 10 ** 5000] + no_numbers()
        for hands, most in MOST_COUNTED.items():
            self.refuses(NoPlaces, lambda places: counted(hands, places, 0), no_places(most))
            self.refuses(NoDegree, lambda degree: counted(hands, hands, degree), wrong)
            self.refuses(NoDegree, lambda degree: counted(hands, 1, degree), wrong)

    def test_the_first_refusal_is_told(self):
        self.refuses_first(counted, [
            (5, 0, -1, NoHands), (None, None, None, NoHands), (True, 2, 0, NoHands), (1, 13, 4, NoHands),
            (2, 0, -1, NoPlaces), (2, 13, 4, NoPlaces), (3, 9, True, NoPlaces), (4, 7, None, NoPlaces),
            (2, True, 4, NoPlaces), (2, Prickly(), Prickly(), NoPlaces), (2, 12, 4, NoDegree), (4, 6, True, NoDegree)])


class SpreadTest(Refusing, unittest.TestCase):

    def test_by_hand(self):
        for hands, places, order, expected in (
                (2, 1, 1, []), (2, 2, 1, [(1, 2)]), (2, 4, 1, [(2, 4), (4, 2)]), (2, 4, 2, [(2, 2)]),
                (2, 6, 1, [(3, 8), (5, 8), (7, 2), (9, 2)]), (2, 8, 3, [(8, 2)]), (3, 3, 1, [(2, 6)]),
                (4, 4, 1, [(3, 24)]), (2, 9, 1, []), (2, 10, 3, []), (3, 5, 1, []), (4, 5, 1, [])):
            with self.subTest((hands, places, order)):
                self.assertEqual(spread(hands, places, order), expected)

    def test_all_rows_gone_through(self):
        for hands, most in MOST_SPREAD.items():
            for places, order in product(range(1, most + 1), (1, 2, 3, 4)):
                leads = [oracle.greatest(hands, row, order) for row in oracle.rows(hands, places)]
                expected = [(lead, leads.count(lead)) for lead in range(1000) if lead in leads]
                found = spread(hands, places, order)
                self.assertEqual(found, expected, (hands, places, order))
                self.assertIs(type(found), list)
                self.assertEqual({type(pair) for pair in found} - {tuple}, set())
                self.assertLess(max([lead for lead in leads if lead is not None], default=0), 1000)

    def test_as_many_as_are_counted_and_from_the_calmest_on(self):
        for hands, most in MOST_SPREAD.items():
            for places, order in product(range(1, most + 1), (1, 2, 3, 4)):
                found = spread(hands, places, order)
                self.assertEqual(sum(many for _, many in found), counted(hands, places, order - 1))
                if found:
                    self.assertEqual(found[0][0], greatest(hands, calmest(hands, places, order), order))

    def test_told_is_a_new_list(self):
        found = spread(2, 4, 1)
        found.append(9)
        found[0] = None
        self.assertEqual(spread(2, 4, 1), [(2, 4), (4, 2)])

    def test_refused(self):
        self.refuses(NoHands, lambda hands: spread(hands, 4, 1), no_hands())
        for hands, most in MOST_SPREAD.items():
            self.refuses(NoPlaces, lambda places: spread(hands, places, 1), no_places(most))
            self.refuses(NoOrder, lambda order: spread(hands, hands, order), no_lead_orders())
            self.refuses(NoOrder, lambda order: spread(hands, 1, order), no_lead_orders())

    def test_the_first_refusal_is_told(self):
        self.refuses_first(spread, [
            (5, 0, 0, NoHands), (None, None, None, NoHands), (True, 2, 1, NoHands), (1, 11, 5, NoHands),
            (2, 0, 0, NoPlaces), (2, 11, 5, NoPlaces), (3, 7, True, NoPlaces), (4, 6, None, NoPlaces),
            (2, True, 0, NoPlaces), (2, Prickly(), Prickly(), NoPlaces), (2, 10, 5, NoOrder), (4, 5, True, NoOrder)])


if __name__ == "__main__":
    unittest.main()
