"""The whole way: from texts to rows, tables and totals, and once more the same."""

import unittest
from copy import deepcopy

from evenrows import errors
from evenrows.counting import counted, moments, spread
from evenrows.foreseeing import calming, foreseen, straight_on
from evenrows.leads import greatest, of_two, worst
from evenrows.making import joined, named, put_into, turned
from evenrows.mending import exchanged, mended, mended_on, nearest
from evenrows.rows import is_row, lead, signs, totals
from evenrows.searching import calmest, shortest
from evenrows.smooth import differences, is_smooth
from evenrows.sums import evenness, is_even, sums
from evenrows.tables import Table
from evenrows.texts import read_row, read_worths, row_text, worths_text

ROW = (0, 1, 2, 2, 1, 0)
WORTHS = (7, 5, 3, 2, 2, 9)
ASKED = [
    (is_row, 3, ROW), (signs, 3, ROW, 0, 1), (totals, 3, ROW, WORTHS), (lead, 3, ROW, 0, 1, WORTHS),
    (differences, WORTHS), (is_smooth, WORTHS, 3), (sums, 3, ROW, 0, 1), (is_even, 3, ROW, 1), (evenness, 3, ROW),
    (greatest, 3, ROW, 2), (of_two, 3, ROW, 0, 1, 2), (worst, 3, ROW, 0, 1, 2), (put_into, 3, ROW, ROW),
    (joined, 3, ROW, ROW), (turned, 3, ROW), (named, 3, ROW, (2, 0, 1)), (shortest, 3, 1), (calmest, 3, 6, 2),
    (exchanged, 3, ROW, 0, 1), (mended, 3, ROW, 1), (mended_on, 3, (0, 0, 1, 1, 2, 2), 1), (nearest, 3, ROW, 0),
    (straight_on, WORTHS, 9, 2), (foreseen, 3, ROW, WORTHS[:3], 0, 1, 2), (calming, 3, ROW, WORTHS[:2], 1),
    (moments, 3, ROW, 3), (counted, 3, 6, 1), (spread, 3, 6, 1), (row_text, 3, ROW), (read_row, 3, "abccba"),
    (worths_text, WORTHS), (read_worths, "7 5 3 2 2 9"),
]
TELLING = ["totals", "worths", "row", "next", "most", "twin", "__len__", "__str__"]


def spoilt(told):
    """Lists that were told are changed, those within others too."""
    if isinstance(told, list):
        for thing in told:
            spoilt(thing)
        told[:] = ["spoilt"] + told[1:] + [None]


class WholeTest(unittest.TestCase):

    def test_from_texts_to_totals(self):
        row = read_row(3, "abccba")
        worths = read_worths("7 5 3 2 2 9")
        self.assertEqual((row, worths), (ROW, WORTHS))
        self.assertEqual(totals(3, row, worths), [16, 7, 5])
        table = Table(3, row)
        self.assertEqual([table.tell(worth) for worth in worths], list(row))
        self.assertEqual(table.totals(), totals(3, row, worths))
        self.assertEqual(table.most(), max(lead(3, row, one, other, worths)
                                           for one in range(3) for other in range(3) if one != other))
        self.assertEqual((str(table), row_text(3, table.row())), ("abccba", "abccba"))
        self.assertEqual(worths_text(tuple(table.worths())), "7 5 3 2 2 9")
        self.assertEqual(table.foresee(0, 2, 4, bound=99), (11, 11))

    def test_from_a_shortest_row_to_its_worst_worths_at_a_table(self):
        row = put_into(2, shortest(2, 1), shortest(2, 1))
        self.assertEqual(row_text(2, row), "abbabaabbaababba")
        self.assertEqual((evenness(2, row), is_even(2, row, 3)), (3, True))
        self.assertEqual(len(set(map(tuple, moments(2, row, 3)))), 1)
        table = Table(2, read_row(2, row_text(2, row)))
        for worth in read_worths(worths_text(worst(2, row, 0, 1, 4, bound=7))):
            table.tell(worth)
        self.assertEqual(table.most(), greatest(2, row, 4, bound=7))
        self.assertEqual(table.most(), of_two(2, row, 1, 0, 4, bound=7))

    def test_calmed_at_a_table_the_leads_foreseen_are_as_told(self):
        table = Table(2, (0, 0, 0, 1, 1, 1))
        table.tell(2)
        table.tell(4)
        one, other, expected = calming(2, table.row(), tuple(table.worths()), 1)
        self.assertLess(expected, max(table.foresee(0, 1, 1)[1], table.foresee(1, 0, 1)[1]))
        table.exchange(one, other)
        self.assertEqual(max(table.foresee(0, 1, 1)[1], table.foresee(1, 0, 1)[1]), expected)
        self.assertEqual(table.row(), exchanged(2, (0, 0, 0, 1, 1, 1), one, other))
        self.assertEqual(table.foresee(0, 1, 1), foreseen(2, table.row(), (2, 4), 0, 1, 1))
        self.assertEqual((table.back(), str(table)), ("exchange", "aaabbb"))

    def test_leads_foreseen_narrow_as_worths_go_on(self):
        worths = (3, 4, 4, 5, 4, 3)
        table, before = Table(3, ROW), None
        for worth in worths:
            table.tell(worth)
            least, most = table.foresee(0, 2, 1)
            if before is not None:
                self.assertLessEqual(before[0], least)
                self.assertLessEqual(most, before[1])
            before = (least, most)
        self.assertEqual(before, (lead(3, ROW, 0, 2, worths),) * 2)

    def test_asking_again_tells_the_same_in_lists_of_its_own(self):
        for call, *things in ASKED:
            with self.subTest(call.__name__):
                handed_in = deepcopy(things)
                told = call(*things)
                kept = deepcopy(told)
                spoilt(told)
                self.assertEqual(call(*things), kept)
                self.assertIs(type(call(*things)), type(kept))
                self.assertEqual(call(*deepcopy(things)), kept)
                self.assertEqual(things, handed_in)

    def test_asking_a_table_again_tells_the_same_in_lists_of_its_own(self):
        for told in range(7):
            table, other = Table(3, ROW), Table(3, tuple(list(ROW)))
            for worth in WORTHS[:told]:
                table.tell(worth)
                other.tell(worth)
            for name in TELLING:
                call = getattr(table, name)
                kept = deepcopy(call())
                spoilt(call())
                self.assertEqual(call(), kept)
                self.assertEqual(getattr(other, name)(), kept)
            self.assertEqual(table, other)

    def test_each_refusal_is_a_turn_error(self):
        for kind, call, *things in (
                (errors.NoHands, evenness, 1, ROW), (errors.NoRow, evenness, 2, ROW),
                (errors.NoHand, signs, 3, ROW, 0, 3), (errors.NoWorths, totals, 3, ROW, ()),
                (errors.NoOrder, greatest, 3, ROW, 0), (errors.NotEven, worst, 3, ROW, 0, 1, 3),
                (errors.TooLong, joined, 3, ROW * 6, ROW * 6), (errors.NoDegree, shortest, 3, 2),
                (errors.NoPlaces, calmest, 4, 6, 1), (errors.NoText, read_row, 3, ""),
                (errors.NoText, read_worths, ""), (errors.Nothing, Table(3, ROW).back)):
            with self.subTest(kind.__name__):
                with self.assertRaises(errors.TurnError) as caught:
                    call(*things)
                self.assertIs(type(caught.exception), kind)
        with self.assertRaises(errors.NoBound):
            greatest(3, ROW, 1, bound=100)


if __name__ == "__main__":
    unittest.main()
