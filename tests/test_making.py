import unittest
from itertools import permutations, product

from evenrows.errors import NoHand, NoHands, NoRow, TooLong
from evenrows.leads import greatest, of_two
from evenrows.making import joined, named, put_into, turned
from evenrows.sums import evenness
from tests import oracle
from tests.test_rows import LONGEST, TOO_LONG, no_hands, no_rows_of_two
from tests.test_sums import EIGHT, FOUR, turns_by_bits
from tests.wrong import Prickly, Refusing, no_tuples


def short_rows(hands):
    longest = {2: 4, 3: 3, 4: 2}[hands]
    return [row for places in range(1, longest + 1) for row in oracle.rows(hands, places)]


def short_pairs():
    return [(hands, row, other) for hands in (2, 3, 4)
            for row, other in product(short_rows(hands), repeat=2)]


def no_names_of_three():
    return no_tuples() + [
        (), (0,), (0, 1), (0, 1, 2, 0), (0, 1, 2, 3), (0, 0, 1), (2, 1, 2), (1, 1, 1), (0, 1, 3), (1, 2, 3),
        (-1, 0, 1), (0, 1, -1), (False, 1, 2), (0, True, 2), (True, 0, 2), (0, 1, None), (0, "1", 2), (0, 1, (2,)),
        ([0], 1, 2), (0, 1, 2j), (0, 1, 10 ** 5000), (Prickly(), 1, 2), (0, 1, Prickly()), ((0, 1, 2),),
    ]


class PutIntoTest(Refusing, unittest.TestCase):

    def test_by_hand(self):
        for hands, row, other, expected in (
                (2, (0, 1), (0, 1), FOUR), (2, FOUR, (0, 1), EIGHT), (2, (0, 1), FOUR, EIGHT),
                (2, (0, 0, 1), (1, 0), (1, 1, 0, 0, 0, 1)), (2, (1, 0), (0, 0, 1), (1, 0, 1, 0, 0, 1)),
                (3, (0, 1, 2), (0, 1, 2), (0, 1, 2, 1, 2, 0, 2, 0, 1)), (3, (0, 2), (2, 1), (2, 1, 1, 0)),
                (4, (0, 3), (3, 1, 2), (3, 2, 1, 0, 2, 1)), (4, (3,), (3,), (2,)), (3, (2,), (1,), (0,)),
                (2, (1,), (1,), (0,))):
            with self.subTest((hands, row, other)):
                self.assertEqual(put_into(hands, row, other), expected)

    def test_turn_by_turn(self):
        for hands, row, other in short_pairs():
            found = put_into(hands, row, other)
            self.assertIs(type(found), tuple)
            self.assertEqual(len(found), len(row) * len(other))
            for at, step in enumerate(other):
                for place, turn in enumerate(row):
                    moved_on = (list(range(hands)) * 2)[turn + step]
                    self.assertEqual(found[at * len(row) + place], moved_on)

    def test_into_a_single_turn_of_hand_0_and_a_single_turn_into_a_row(self):
        for hands in (2, 3, 4):
            for row in short_rows(hands):
                self.assertEqual(put_into(hands, row, (0,)), row)
                self.assertEqual(put_into(hands, (0,), row), row)

    def test_even_to_the_sum_of_both_and_1_at_least(self):
        for hands, row, other in short_pairs():
            least = evenness(hands, row) + evenness(hands, other) + 1
            self.assertGreaterEqual(evenness(hands, put_into(hands, row, other)), least)
            self.assertTrue(least < 0 or oracle.is_even(hands, put_into(hands, row, other), least))

    def test_even_rows_put_into_even_rows(self):
        row = (0, 1)
        for degree in range(1, 6):
            row = put_into(2, row, (0, 1))
            self.assertEqual(row, turns_by_bits(2 ** (degree + 1)))
            self.assertEqual(evenness(2, row), degree)
        self.assertEqual(evenness(3, put_into(3, (0, 1, 2), (0, 1, 2))), 1)
        self.assertEqual(evenness(3, put_into(3, (0, 1, 2, 2, 1, 0), (0, 1, 2))), 2)
        self.assertEqual(evenness(4, put_into(4, (0, 1, 2, 3, 3, 2, 1, 0), (0, 1, 2, 3))), 2)

    def test_evenness_less_than_0_counts_too(self):
        for row, other, expected in (((0,), FOUR, 1), (FOUR, (0, 0), 1), (FOUR, (1,), 1), ((0,), (1,), -1)):
            self.assertEqual(evenness(2, row) == -1 or evenness(2, other) == -1, True)
            self.assertEqual(evenness(2, put_into(2, row, other)), expected)

    def test_64_places_just_taken(self):
        for first, second in ((8, 8), (1, 64), (64, 1), (2, 32), (16, 4)):
            found = put_into(2, turns_by_bits(first), turns_by_bits(second))
            self.assertEqual(found, turns_by_bits(64))
        self.assertEqual(len(put_into(4, (3,) * 16, (1,) * 4)), 64)
        self.assertEqual(len(put_into(2, (0,) * 9, (1,) * 7)), 63)

    def test_65_places_refused(self):
        for first, second in ((5, 13), (13, 5), (11, 6), (2, 33), (33, 2), (64, 2), (2, 64), (64, 64)):
            with self.subTest((first, second)), self.assertRaises(TooLong):
                put_into(2, LONGEST[:first], LONGEST[:second])

    def test_told_twice_are_two_tuples(self):
        first = put_into(2, FOUR, (0,))
        self.assertIsNot(first, FOUR)
        self.assertIsNot(put_into(2, FOUR, (0,)), first)
        self.assertIsNot(put_into(2, (0,), FOUR), FOUR)

    def test_refused(self):
        self.refuses(NoHands, lambda hands: put_into(hands, (0, 1), (0, 1)), no_hands())
        self.refuses(NoRow, lambda row: put_into(2, row, (0, 1)), no_rows_of_two())
        self.refuses(NoRow, lambda other: put_into(2, (0, 1), other), no_rows_of_two())

    def test_the_first_refusal_is_told(self):
        self.refuses_first(put_into, [
            (5, (), (), NoHands), (True, (0, 1), (0, 1), NoHands), (1, LONGEST, LONGEST, NoHands),
            (2, (0, 1), (0, 2), NoRow), (2, (0, 2), LONGEST, NoRow), (2, LONGEST, TOO_LONG, NoRow),
            (2, LONGEST, (0, True), NoRow), (2, TOO_LONG, (0,), NoRow), (2, LONGEST, LONGEST, TooLong)])


class JoinedTest(Refusing, unittest.TestCase):

    def test_by_hand(self):
        self.assertEqual(joined(2, (0, 1), (1, 0)), FOUR)
        self.assertEqual(joined(2, (1, 0), (0, 1)), (1, 0, 0, 1))
        self.assertEqual(joined(3, (2,), (0, 1, 1)), (2, 0, 1, 1))
        self.assertEqual(joined(4, (3, 3), (0,)), (3, 3, 0))

    def test_the_one_behind_the_other(self):
        for hands, row, other in short_pairs():
            found = joined(hands, row, other)
            self.assertIs(type(found), tuple)
            self.assertEqual(list(found), list(row) + list(other))

    def test_even_to_the_lesser_degree_at_least(self):
        for hands, row, other in short_pairs():
            least = min(evenness(hands, row), evenness(hands, other))
            self.assertGreaterEqual(evenness(hands, joined(hands, row, other)), least)
        for row, other, expected in ((FOUR, FOUR, 1), (FOUR, (0, 1), 0), (EIGHT, FOUR, 1), ((0, 1), (1, 0), 1)):
            self.assertEqual(evenness(2, joined(2, row, other)), expected)

    def test_greatest_leads_of_each_two_hands_add_up(self):
        rows = [(2, EIGHT), (2, (1, 0, 0, 1)), (2, (0, 0, 1, 1)), (2, FOUR), (3, (0, 1, 2)), (3, (2, 1, 0, 0, 1, 2)),
                (3, (0, 1, 2, 2, 1, 0)), (4, (0, 1, 2, 3)), (4, (3, 1, 2, 0, 0, 2, 1, 3)), (2, turns_by_bits(16))]
        many = 0
        for (hands, row), (others, other), order in product(rows, rows, (1, 2, 3, 4)):
            if hands == others and min(evenness(hands, row), evenness(hands, other)) >= order - 1:
                for one, two in permutations(range(hands), 2):
                    parts = [of_two(hands, part, one, two, order, bound=5) for part in (row, other)]
                    found = of_two(hands, joined(hands, row, other), one, two, order, bound=5)
                    self.assertEqual(found, sum(parts))
                    many += 1
        self.assertGreater(many, 100)

    def test_64_places_just_taken(self):
        self.assertEqual(joined(2, LONGEST[:32], LONGEST[32:]), LONGEST)
        self.assertEqual(joined(2, LONGEST[:63], LONGEST[63:]), LONGEST)
        self.assertEqual(joined(2, LONGEST[:1], LONGEST[1:]), LONGEST)

    def test_65_places_refused(self):
        for first in (1, 2, 32, 33, 63, 64):
            with self.subTest(first), self.assertRaises(TooLong):
                joined(2, LONGEST[:first], LONGEST[:65 - first])
        with self.assertRaises(TooLong):
            joined(2, LONGEST, LONGEST)

    def test_told_twice_are_two_tuples(self):
        self.assertIsNot(joined(2, (0, 1), (1, 0)), joined(2, (0, 1), (1, 0)))

    def test_refused(self):
        self.refuses(NoHands, lambda hands: joined(hands, (0, 1), (0, 1)), no_hands())
        self.refuses(NoRow, lambda row: joined(2, row, (0, 1)), no_rows_of_two())
        self.refuses(NoRow, lambda other: joined(2, (0, 1), other), no_rows_of_two())

    def test_the_first_refusal_is_told(self):
        self.refuses_first(joined, [
            (5, (), (), NoHands), (False, (0, 1), (0, 1), NoHands), (1, LONGEST, LONGEST, NoHands),
            (2, (0, 1), (0, 2), NoRow), (2, (0, 2), LONGEST, NoRow), (2, LONGEST, TOO_LONG, NoRow),
            (2, LONGEST, (0, True), NoRow), (2, LONGEST, (), NoRow), (2, LONGEST, (0,), TooLong)])


class TurnedTest(Refusing, unittest.TestCase):

    def test_by_hand(self):
        self.assertEqual(turned(2, (0, 0, 1)), (1, 0, 0))
        self.assertEqual(turned(4, (3, 0, 1, 2)), (2, 1, 0, 3))
        self.assertEqual(turned(3, (2,)), (2,))
        self.assertEqual(turned(2, LONGEST), tuple((place + 1) % 2 for place in range(64)))

    def test_place_by_place(self):
        for hands, row in oracle.some_rows():
            found = turned(hands, row)
            self.assertIs(type(found), tuple)
            self.assertEqual(len(found), len(row))
            self.assertTrue(all(found[place] == row[-1 - place] for place in range(len(row))))

    def test_as_even_and_with_the_same_greatest_leads(self):
        for hands, row in oracle.some_rows():
            found = turned(hands, row)
            self.assertEqual(evenness(hands, found), evenness(hands, row))
            for order in (1, 2, 3, 4):
                self.assertEqual(greatest(hands, found, order, bound=3), greatest(hands, row, order, bound=3))
                for one in range(1, hands):
                    self.assertEqual(of_two(hands, found, 0, one, order), of_two(hands, row, 0, one, order))

    def test_told_is_a_new_tuple(self):
        for row in ((0,), FOUR, LONGEST):
            self.assertIsNot(turned(2, row), row)
            self.assertIsNot(turned(2, row), turned(2, row))

    def test_refused(self):
        self.refuses(NoHands, lambda hands: turned(hands, (0, 1)), no_hands())
        self.refuses(NoHands, lambda hands: turned(hands, None), no_hands())
        self.refuses(NoRow, lambda row: turned(2, row), no_rows_of_two())


class NamedTest(Refusing, unittest.TestCase):

    def test_by_hand(self):
        self.assertEqual(named(2, (0, 0, 1), (1, 0)), (1, 1, 0))
        self.assertEqual(named(3, (0, 1, 2, 2), (1, 2, 0)), (1, 2, 0, 0))
        self.assertEqual(named(3, (0, 1, 2, 2), (2, 0, 1)), (2, 0, 1, 1))
        self.assertEqual(named(4, (3, 0), (2, 1, 0, 3)), (3, 2))
        self.assertEqual(named(4, (3, 0, 0), (1, 2, 3, 0)), (0, 1, 1))

    def test_each_hand_by_the_one_that_names_tell(self):
        for hands, row in oracle.some_rows():
            for names in permutations(range(hands)):
                found = named(hands, row, names)
                self.assertIs(type(found), tuple)
                self.assertEqual(list(found), [dict(enumerate(names))[turn] for turn in row])

    def test_as_even_and_with_the_same_greatest_leads(self):
        for hands, row in oracle.some_rows()[::3]:
            for names in permutations(range(hands)):
                found = named(hands, row, names)
                self.assertEqual(evenness(hands, found), evenness(hands, row))
                for order in (1, 2, 3, 4):
                    self.assertEqual(greatest(hands, found, order), greatest(hands, row, order))
                    of_named = of_two(hands, found, names[0], names[1], order)
                    self.assertEqual(of_named, of_two(hands, row, 0, 1, order))

    def test_64_places(self):
        self.assertEqual(named(2, LONGEST, (1, 0)), turned(2, LONGEST))
        self.assertEqual(named(2, LONGEST, (0, 1)), LONGEST)

    def test_told_is_a_new_tuple(self):
        self.assertIsNot(named(2, FOUR, (0, 1)), FOUR)
        self.assertIsNot(named(2, FOUR, (1, 0)), named(2, FOUR, (1, 0)))
        self.assertIsNot(named(2, (0, 1), (0, 1)), named(2, (0, 1), (0, 1)))

    def test_refused(self):
        self.refuses(NoHands, lambda hands: named(hands, (0, 1), (0, 1)), no_hands())
        self.refuses(NoRow, lambda row: named(2, row, (0, 1)), no_rows_of_two())
        self.refuses(NoHand, lambda names: named(3, (0, 1), names), no_names_of_three())
        self.refuses(NoHand, lambda names: named(3, (0,), names), no_names_of_three())

    def test_names_of_another_number_of_hands(self):
        for hands, names in ((2, (0, 1, 2)), (2, (0,)), (3, (0, 1)), (3, (0, 1, 2, 3)), (4, (0, 1, 2)), (2, (0, 2))):
            with self.subTest((hands, names)), self.assertRaises(NoHand):
                named(hands, (0, 1), names)

    def test_the_first_refusal_is_told(self):
        self.refuses_first(named, [
            (5, (), (), NoHands), (True, (0, 1), (0, 1), NoHands), (None, None, None, NoHands),
            (2, [0, 1], (0, 0), NoRow), (2, (0, 2), (0, 1, 2), NoRow), (2, TOO_LONG, None, NoRow),
            (2, (0, 1), (0, 0), NoHand), (2, (0, 1), (False, True), NoHand)])


if __name__ == "__main__":
    unittest.main()
