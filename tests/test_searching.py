import unittest

from evenrows.errors import NoDegree, NoHands, NoOrder, NoPlaces
from evenrows.leads import greatest
from evenrows.searching import calmest, shortest
from evenrows.sums import is_even
from tests import oracle
from tests.test_leads import no_lead_orders
from tests.test_rows import no_hands
from tests.test_sums import EIGHT, FOUR, turns_by_bits
from tests.wrong import Prickly, Refusing, no_numbers

SHORTEST = {
    (2, 0): (0, 1), (2, 1): FOUR, (2, 2): EIGHT, (2, 3): turns_by_bits(16),
    (3, 0): (0, 1, 2), (3, 1): (0, 1, 2, 2, 1, 0),
    (4, 0): (0, 1, 2, 3), (4, 1): (0, 1, 2, 3, 3, 2, 1, 0),
}
MOST_PLACES = {2: 10, 3: 6, 4: 5}


class ShortestTest(Refusing, unittest.TestCase):

    def test_by_hand(self):
        for (hands, degree), row in SHORTEST.items():
            with self.subTest((hands, degree)):
                self.assertEqual(shortest(hands, degree), row)
                self.assertIs(type(shortest(hands, degree)), tuple)
                self.assertTrue(oracle.is_even(hands, row, degree))

    def test_none_of_fewer_places_is_even(self):
        for (hands, degree), row in SHORTEST.items():
            for places in range(1, min(len(row), 13)):
                if places % hands:
                    continue
                for other in oracle.rows(hands, places):
                    self.assertFalse(is_even(hands, other, degree), (hands, degree, other))

    def test_the_first_of_as_many_places(self):
        for (hands, degree), row in SHORTEST.items():
            for other in oracle.rows(hands, len(row)):
                if other == row:
                    break
                if is_even(hands, other, degree):
                    self.fail((hands, degree, other))

    def test_rows_of_14_places_are_not_even_to_degree_3(self):
        for row in oracle.rows(2, 14):
            if sum(row) == 7 and sum(place * turn for place, turn in enumerate(row)) * 2 == 13 * 7:
                self.assertFalse(oracle.is_even(2, row, 3))

    def test_told_twice_are_two_tuples(self):
        for hands, degree in SHORTEST:
            self.assertIsNot(shortest(hands, degree), shortest(hands, degree))

    def test_refused(self):
        self.refuses(NoHands, lambda hands: shortest(hands, 0), no_hands())
        wrong = [-1, 9, 10, 64, 2 ** 64, -(10 ** 5000), 10 ** 5000] + no_numbers()
        for hands, most in ((2, 3), (3, 1), (4, 1)):
            self.refuses(NoDegree, lambda degree: shortest(hands, degree), wrong + list(range(most + 1, 9)))

    def test_the_first_refusal_is_told(self):
        self.refuses_first(shortest, [
            (5, -1, NoHands), (True, 0, NoHands), (1, 4, NoHands), (None, None, NoHands), (2, 4, NoDegree),
            (3, 2, NoDegree), (4, 2, NoDegree), (4, 3, NoDegree), (2, True, NoDegree)])


class CalmestTest(Refusing, unittest.TestCase):

    def test_by_hand(self):
        for hands, places, order, row in (
                (2, 2, 1, (0, 1)), (2, 4, 1, (0, 1, 0, 1)), (2, 4, 2, FOUR), (2, 6, 1, (0, 1) * 3),
                (2, 8, 1, (0, 1) * 4), (2, 8, 2, FOUR * 2), (2, 8, 3, EIGHT), (2, 10, 1, (0, 1) * 5),
                (3, 3, 1, (0, 1, 2)), (3, 6, 1, (0, 1, 2, 0, 2, 1)), (3, 6, 2, (0, 1, 2, 2, 1, 0)),
                (4, 4, 1, (0, 1, 2, 3))):
            with self.subTest((hands, places, order)):
                self.assertEqual(calmest(hands, places, order), row)
                self.assertIs(type(calmest(hands, places, order)), tuple)

    def test_held_against_all_rows_the_first_of_several(self):
        for hands, most in MOST_PLACES.items():
            for places in range(1, most + 1):
                leads = {}
                for order in (1, 2, 3, 4):
                    for row in oracle.rows(hands, places):
                        if oracle.is_even(hands, row, order - 1):
                            leads.setdefault(order, []).append((oracle.greatest(hands, row, order), row))
                    expected = min(leads[order])[1] if order in leads else None
                    self.assertEqual(calmest(hands, places, order), expected)

    def test_there_are_several(self):
        for hands, places, order in ((2, 4, 1), (3, 6, 1), (4, 4, 1), (2, 8, 2)):
            row = calmest(hands, places, order)
            least = greatest(hands, row, order)
            found = [other for other in oracle.rows(hands, places) if greatest(hands, other, order) == least]
            self.assertGreater(len(found), 1)
            self.assertEqual(found[0], row)

    def test_none_where_no_row_has_a_greatest_lead(self):
        for order in (1, 2, 3, 4):
            for hands, places in ((2, 1), (2, 3), (2, 9), (3, 1), (3, 2), (3, 5), (4, 1), (4, 3), (4, 5)):
                self.assertIsNone(calmest(hands, places, order))
        for hands, places, order in ((2, 2, 2), (2, 6, 2), (2, 10, 2), (2, 10, 3), (2, 8, 4), (3, 3, 2), (4, 4, 2)):
            self.assertIsNone(calmest(hands, places, order))

    def test_told_twice_are_two_tuples(self):
        self.assertIsNot(calmest(2, 4, 1), calmest(2, 4, 1))

    def test_refused(self):
        self.refuses(NoHands, lambda hands: calmest(hands, 4, 1), no_hands())
        wrong = [0, -1, 11, 12, 64, 2 ** 64, -(10 ** 5000), 10 ** 5000] + no_numbers()
        for hands, most in MOST_PLACES.items():
            self.refuses(NoPlaces, lambda places: calmest(hands, places, 1), wrong + list(range(most + 1, 11)))
            self.refuses(NoOrder, lambda order: calmest(hands, hands, order), no_lead_orders())
            self.refuses(NoOrder, lambda order: calmest(hands, 1, order), no_lead_orders())

    def test_most_places_are_just_taken(self):
        self.assertEqual(len(calmest(2, 10, 1)), 10)
        self.assertEqual(len(calmest(3, 6, 1)), 6)
        self.assertIsNone(calmest(4, 5, 4))

    def test_the_first_refusal_is_told(self):
        self.refuses_first(calmest, [
            (5, 0, 0, NoHands), (True, 2, 1, NoHands), (1, 11, 5, NoHands), (None, None, None, NoHands),
            (2, 0, 0, NoPlaces), (2, 11, 5, NoPlaces), (3, 7, True, NoPlaces), (4, 6, None, NoPlaces),
            (2, True, 0, NoPlaces), (2, Prickly(), Prickly(), NoPlaces), (2, 10, 5, NoOrder), (4, 5, True, NoOrder)])


if __name__ == "__main__":
    unittest.main()
