"""Each call answers within some seconds at the greatest that it takes."""

import unittest
from itertools import product
from time import perf_counter

from evenrows.counting import counted, moments, spread
from evenrows.foreseeing import calming, foreseen, straight_on
from evenrows.leads import greatest, of_two, worst
from evenrows.making import joined, named, put_into, turned
from evenrows.mending import exchanged, mended, mended_on, nearest
from evenrows.rows import is_row, lead, signs, totals
from evenrows.searching import calmest, shortest
from evenrows.smooth import differences, is_smooth
from evenrows.sums import evenness, is_even, sums
from evenrows.tables import Table
from evenrows.texts import read_row, read_worths, row_text, worths_text
from tests.test_sums import turns_by_bits

SECONDS = 5
HALF = turns_by_bits(32)
LONG = turns_by_bits(64)
FOURS = (0, 1, 2, 3) * 16
WORTHS = tuple((-1) ** place * 2 ** 64 for place in range(64))
MOST_CALM = {2: 10, 3: 6, 4: 5}
MOST_NEAREST = {2: 12, 3: 8, 4: 6}
MOST_COUNTED = {2: 12, 3: 8, 4: 6}


def stretches(hands, places):
    """The row in which each hand has its turns one behind the other."""
    return tuple(place * hands // places for place in range(places))


class TimeTest(unittest.TestCase):

    def answers(self, call, *things, **more):
        begin = perf_counter()
        call(*things, **more)
        self.assertLess(perf_counter() - begin, SECONDS, (call.__name__, things, more))

    def test_rows_and_smooth_worths(self):
        self.answers(is_row, 4, FOURS)
        self.answers(signs, 4, FOURS, 2, 3)
        self.answers(totals, 4, FOURS, WORTHS)
        self.answers(lead, 4, FOURS, 2, 3, WORTHS)
        self.answers(differences, WORTHS, order=9)
        self.answers(is_smooth, WORTHS, 9)

    def test_sums_and_leads(self):
        for hands, row in ((2, LONG), (3, LONG), (4, FOURS), (4, (3,) * 64)):
            self.answers(sums, hands, row, 0, 1, order=9)
            self.answers(is_even, hands, row, 9)
            self.answers(evenness, hands, row)
            for order in (1, 2, 3, 4):
                self.answers(greatest, hands, row, order, bound=99)
                self.answers(of_two, hands, row, 0, 1, order, bound=99)
        for order in (1, 2, 3, 4):
            self.answers(worst, 2, LONG, 0, 1, order, bound=99)

    def test_made_rows(self):
        self.answers(put_into, 4, FOURS[:8], FOURS[:8])
        self.answers(joined, 2, HALF, HALF)
        self.answers(turned, 2, LONG)
        self.answers(named, 4, FOURS, (3, 2, 1, 0))
        self.answers(exchanged, 4, FOURS, 0, 63)

    def test_searches(self):
        for hands, most in ((2, 3), (3, 1), (4, 1)):
            for degree in range(most + 1):
                self.answers(shortest, hands, degree)
        for hands, most in MOST_CALM.items():
            for places, order in product(range(1, most + 1), (1, 2, 3, 4)):
                self.answers(calmest, hands, places, order)

    def test_mended_rows(self):
        for hands, places, order in product((2, 3, 4), (15, 16), (1, 2, 3, 4)):
            for row in (stretches(hands, places), turns_by_bits(places)):
                self.answers(mended, hands, row, order)
                self.answers(mended_on, hands, row, order)
        for hands, most in MOST_NEAREST.items():
            for places, degree in product(range(1, most + 1), (0, 1, 2)):
                self.answers(nearest, hands, stretches(hands, places), degree)
                self.answers(nearest, hands, (hands - 1,) * places, degree)

    def test_leads_foreseen(self):
        for order, many in product((1, 2, 3, 4), (4, 32, 64)):
            self.answers(straight_on, WORTHS[:many], 64, order)
            self.answers(foreseen, 4, FOURS, WORTHS[:many], 2, 3, order, bound=99)
        for hands, order in product((2, 3, 4), (1, 2, 3, 4)):
            for row in (stretches(hands, 24), turns_by_bits(24)):
                self.answers(calming, hands, row, WORTHS[:order], order, bound=99)

    def test_counts(self):
        self.answers(moments, 4, FOURS, 9)
        for hands, most in MOST_COUNTED.items():
            for places, degree in product(range(1, most + 1), (0, 1, 2, 3)):
                self.answers(counted, hands, places, degree)
        for hands, most in MOST_CALM.items():
            for places, order in product(range(1, most + 1), (1, 2, 3, 4)):
                self.answers(spread, hands, places, order)

    def test_texts(self):
        self.answers(row_text, 4, FOURS)
        self.answers(read_row, 4, "abcd" * 16)
        for worths in (WORTHS, (10 ** 10000,) * 64):
            self.answers(worths_text, worths)
            self.answers(read_worths, worths_text(worths))

    def test_a_table_of_64_places_and_some_thousand_calls(self):
        self.answers(self.many_calls, Table(4, FOURS))

    def many_calls(self, table):
        for call in range(4000):
            table.exchange(call % 31, call % 32 + 32)
        for worth in WORTHS:
            table.tell(worth)
            table.foresee(2, 3, 1, bound=99)
            self.assertEqual(table.twin(), table)
        for _ in range(4064):
            table.back()
        self.assertEqual(table, Table(4, FOURS))


if __name__ == "__main__":
    unittest.main()
