import unittest
from itertools import permutations, product

from evenrows.errors import Done, NoBound, NoHand, NoHands, NoOrder, NoPlaces, NoRow, Nothing, NoWorths, TurnError
from evenrows.foreseeing import foreseen
from evenrows.tables import Table
from tests import oracle
from tests.test_leads import no_bounds, no_lead_orders
from tests.test_mending import no_two_places
from tests.test_rows import LONGEST, TOO_LONG, no_hands, no_rows_of_two, no_two_hands
from tests.test_sums import FOUR
from tests.wrong import Prickly, Refusing, no_numbers

ROWS = ((2, (0,)), (2, FOUR), (2, (0, 0, 1)), (3, (0, 1, 2, 2, 1, 0)), (3, (2, 2, 0, 0)), (4, (3, 1, 0, 2, 2)))


class Model:
    """A table as the words have it, with all that it was before each call."""

    def __init__(self, hands, row):
        self.hands, self.turns, self.told, self.before = hands, row, (), []

    def keep(self, name):
        self.before.append((name, self.turns, self.told))

    def tell(self, worth):
        self.keep("tell")
        self.told += (worth,)
        return self.turns[len(self.told) - 1]

    def exchange(self, one, other):
        self.keep("exchange")
        self.turns = oracle.swapped(self.turns, one, other)

    def back(self):
        name, self.turns, self.told = self.before.pop()
        return name

    def totals(self):
        return [oracle.total(self.turns[:len(self.told)], hand, self.told) for hand in range(self.hands)]


def seen(table):
    """All that a table tells."""
    asked = []
    for order in range(1, min(len(table), 4) + 1):
        asked += [table.foresee(one, other, order, bound=3) for one, other in ((0, 1), (1, 0))]
    return (table.row(), table.worths(), table.totals(), table.next(), table.most(), len(table), str(table), asked)


def taken_back(table):
    """The names of all calls that can be taken back, by which they are."""
    found = []
    while True:
        try:
            found.append(table.back())
        except Nothing:
            return found


def calls(step, many, places):
    """Some calls, with no chance: to tell (0 to 3), to exchange (4, 5) and to take back (6)."""
    state = step
    for _ in range(many):
        state = (state * 1103515245 + 12345) % 2 ** 31
        kind = state // 2 ** 16
        yield kind % 7, kind // 7 % 41 - 20, kind // 7 % places, kind // 77 % places


class ModelTest(unittest.TestCase):

    def is_as(self, table, model):
        told = len(model.told)
        self.assertEqual(table.row(), model.turns)
        self.assertEqual(table.worths(), list(model.told))
        self.assertEqual(table.totals(), model.totals())
        self.assertEqual(table.next(), model.turns[told] if told < len(model.turns) else None)
        self.assertEqual(table.most(), max(one - other for one, other in permutations(model.totals(), 2)))
        self.assertEqual(len(table), told)
        self.assertEqual(str(table), "".join("abcd"[turn] for turn in model.turns))
        for one, other in permutations(range(model.hands), 2):
            for order in range(1, min(told, 4) + 1):
                expected = oracle.foreseen(model.turns, model.told, one, other, order, 2)
                self.assertEqual(table.foresee(one, other, order, bound=2), expected)

    def go_on(self, table, model, kind, worth, one, other):
        """The same call of both, if it is none that the table refuses."""
        told, places = len(model.told), len(model.turns)
        if kind == 6 and model.before:
            self.assertEqual(table.back(), model.back())
        elif kind in (4, 5) and one != other and min(one, other) >= told:
            self.assertIsNone(table.exchange(one, other))
            model.exchange(one, other)
        elif kind < 4 and told < places:
            self.assertEqual(table.tell(worth), model.tell(worth))

    def test_call_by_call_and_back_again(self):
        for step, (hands, row) in product(range(12), ROWS):
            table, model = Table(hands, row), Model(hands, row)
            self.is_as(table, model)
            for call in calls(step, 25, len(row)):
                self.go_on(table, model, *call)
                self.is_as(table, model)
            while model.before:
                self.assertEqual(table.back(), model.back())
                self.is_as(table, model)
            self.assertEqual(taken_back(table), [])
            self.assertEqual(table, Table(hands, row))

    def test_twins_apart(self):
        for step, (hands, row) in product(range(12), ROWS):
            table, model = Table(hands, row), Model(hands, row)
            for call in calls(step, 15, len(row)):
                self.go_on(table, model, *call)
            twin, twin_model = table.twin(), Model(hands, model.turns)
            twin_model.told = model.told
            self.assertEqual(twin, table)
            self.is_as(twin, twin_model)
            for call, twin_call in zip(calls(step + 90, 15, len(row)), calls(step + 50, 15, len(row))):
                self.go_on(table, model, *call)
                self.is_as(twin, twin_model)
                self.go_on(twin, twin_model, *twin_call)
                self.is_as(table, model)
                self.assertEqual(table == twin, (model.turns, model.told) == (twin_model.turns, twin_model.told))
            self.assertEqual(taken_back(twin), [twin_model.back() for _ in list(twin_model.before)])
            self.is_as(twin, twin_model)
            self.is_as(table, model)
            self.assertEqual(taken_back(table), [model.back() for _ in list(model.before)])
            self.is_as(table, model)
            self.is_as(twin, twin_model)


class TableTest(Refusing, unittest.TestCase):

    def test_by_hand(self):
        table = Table(3, (0, 1, 2, 0))
        self.assertEqual(seen(table), ((0, 1, 2, 0), [], [0, 0, 0], 0, 0, 0, "abca", []))
        self.assertEqual(table.tell(5), 0)
        self.assertEqual(seen(table), ((0, 1, 2, 0), [5], [5, 0, 0], 1, 5, 1, "abca", [(-1, 11), (-11, 1)]))
        self.assertIsNone(table.exchange(3, 1))
        self.assertEqual(seen(table)[:7], ((0, 0, 2, 1), [5], [5, 0, 0], 0, 5, 1, "aacb"))
        self.assertEqual(table.tell(-7), 0)
        self.assertEqual(table.tell(1), 2)
        self.assertEqual(seen(table)[:7], ((0, 0, 2, 1), [5, -7, 1], [-2, 0, 1], 1, 3, 3, "aacb"))
        self.assertEqual(table.tell(0), 1)
        self.assertEqual(seen(table)[:7], ((0, 0, 2, 1), [5, -7, 1, 0], [-2, 0, 1], None, 3, 4, "aacb"))
        self.assertEqual(taken_back(table), ["tell", "tell", "tell", "exchange", "tell"])
        self.assertEqual(seen(table), seen(Table(3, (0, 1, 2, 0))))

    def test_arguments_are_taken_by_name(self):
        table = Table(hands=2, row=FOUR)
        self.assertEqual(table.tell(worth=5), 0)
        self.assertIsNone(table.exchange(one=1, other=3))
        self.assertEqual(table.row(), (0, 0, 1, 1))
        self.assertEqual(table.foresee(one=0, other=1, order=1, bound=2), (-8, 8))
        with self.assertRaises(TypeError):
            table.foresee(0, 1, 1, 2)

    def test_each_method_stands_in_the_class(self):
        for name in ("tell", "exchange", "totals", "worths", "row", "next", "most", "foresee", "back", "twin",
                     "__init__", "__len__", "__str__", "__eq__"):
            self.assertIn(name, vars(Table))

    def test_64_places(self):
        table = Table(2, LONGEST)
        for place in range(64):
            self.assertEqual((len(table), table.next(), table.tell(place)), (place, place % 2, place % 2))
        self.assertEqual((len(table), table.next(), table.totals(), table.most()), (64, None, [992, 1024], 32))
        self.assertEqual(taken_back(table), ["tell"] * 64)
        self.assertIsNone(Table(4, LONGEST).exchange(0, 63))

    def test_the_row_handed_in_is_not_kept(self):
        row = (0, 1, 1, 0)
        self.assertIsNot(Table(2, row).row(), row)

    def test_told_lists_are_new_and_shared_with_nobody(self):
        table = Table(2, FOUR)
        table.tell(5)
        before, twin = seen(table), table.twin()
        for told in (table.worths(), table.totals(), twin.worths(), twin.totals()):
            told.append(9)
            told[0] = 7
        self.assertEqual(seen(table), before)
        self.assertEqual(seen(twin), before)

    def test_told_worths_can_be_any_whole_numbers(self):
        table = Table(2, (0, 1, 0))
        for worth in (10 ** 5000, -(10 ** 5000), 0):
            table.tell(worth)
        self.assertTrue(table.totals() == [10 ** 5000, -(10 ** 5000)])
        self.assertTrue(table.most() == 2 * 10 ** 5000)
        self.assertTrue(table.foresee(1, 0, 3) == (-2 * 10 ** 5000, -2 * 10 ** 5000))

    def test_places_of_the_same_hand_are_exchanged_and_taken_back(self):
        table = Table(2, FOUR)
        table.exchange(0, 3)
        self.assertEqual(table, Table(2, FOUR))
        self.assertEqual(taken_back(table), ["exchange"])

    def test_the_last_call_is_taken_back_first(self):
        table = Table(3, (0, 1, 2))
        table.exchange(0, 1)
        table.exchange(1, 2)
        self.assertEqual((str(table), table.back(), str(table), table.back(), str(table)),
                         ("bca", "exchange", "bac", "exchange", "abc"))
        table.exchange(1, 2)
        table.exchange(0, 1)
        table.tell(5)
        self.assertEqual((str(table), table.back(), table.back(), str(table)), ("cab", "tell", "exchange", "acb"))
        self.assertEqual((table.tell(6), table.back(), table.back()), (0, "tell", "exchange"))

    def test_calls_that_only_tell_are_not_taken_back(self):
        table = Table(2, FOUR)
        table.tell(5)
        for _ in range(3):
            seen(table)
            table.twin()
            self.assertEqual(table, table.twin())
        self.assertEqual(taken_back(table), ["tell"])

    def test_nothing_ahead_of_a_twin_is_taken_back_there(self):
        table = Table(2, FOUR)
        table.exchange(1, 3)
        table.tell(5)
        twin = table.twin()
        self.assertIs(type(twin), Table)
        with self.assertRaises(Nothing):
            twin.back()
        twin.tell(6)
        self.assertEqual(taken_back(twin), ["tell"])
        self.assertEqual(twin, table)
        self.assertEqual(taken_back(table), ["tell", "exchange"])
        self.assertEqual((str(twin), twin.worths()), ("aabb", [5]))

    def test_equal(self):
        table = Table(3, (0, 1, 1, 0))
        table.tell(5)
        other = Table(3, (1, 0, 1, 0))
        other.exchange(1, 0)
        self.assertFalse(table == other)
        other.tell(5)
        self.assertTrue(table == other)
        self.assertFalse(table != other)
        other.tell(6)
        other.back()
        self.assertTrue(other == table)

    def test_unlike(self):
        tables = [Table(2, FOUR), Table(3, FOUR), Table(2, (0, 1, 0, 1)), Table(2, (0, 1, 1)), Table(2, FOUR),
                  Table(2, FOUR), Table(2, FOUR)]
        for table, worths in zip(tables[4:], ((5,), (6,), (5, 0))):
            for worth in worths:
                table.tell(worth)
        for one, other in product(range(7), repeat=2):
            self.assertIs(tables[one] == tables[other], one == other)
            self.assertIs(tables[one] != tables[other], one != other)

    def test_a_table_equals_nothing_else(self):
        class AllAlike:
            def __eq__(self, other):
                return True

        table = Table(2, FOUR)
        for thing in [FOUR, [2, FOUR, []], (2, FOUR, []), "abba", None, Table, AllAlike()] + no_numbers():
            self.assertIs(table == thing, False)
            self.assertIs(table != thing, True)


class RefusedTest(Refusing, unittest.TestCase):

    def tables(self):
        """Tables that were gone on with so far, each with the names of its calls."""
        found = []
        for hands, row in ROWS:
            for many in range(len(row) + 1):
                table, names = Table(hands, row), []
                if len(row) > 1:
                    table.exchange(len(row) - 1, 0)
                    names.append("exchange")
                for place in range(many):
                    table.tell(place * 7 - 3)
                    names.append("tell")
                found.append((table, names))
        return found

    def refused(self, kind, call):
        """Each table refuses the call, and is then as it was, with the same calls to take back."""
        for table, names in self.tables():
            before = seen(table)
            with self.assertRaises(kind):
                call(table)
            self.assertEqual(seen(table), before)
            self.assertEqual(taken_back(table), names[::-1])

    def test_hands_and_row(self):
        self.refuses(NoHands, lambda hands: Table(hands, (0, 1)), no_hands())
        self.refuses(NoRow, lambda row: Table(2, row), no_rows_of_two())
        self.refuses_first(Table, [(5, (), NoHands), (None, None, NoHands), (True, (0, 1), NoHands),
                                   (2, TOO_LONG, NoRow), (3, (0, 3), NoRow)])

    def test_tell(self):
        table = Table(2, FOUR)
        self.refuses(NoWorths, table.tell, no_numbers() + [[5], (5,)])
        self.assertEqual(seen(table), seen(Table(2, FOUR)))
        for place in range(4):
            table.tell(place)
        before = seen(table)
        self.refuses(Done, table.tell, [5, 0, -1] + no_numbers())
        self.assertEqual(seen(table), before)
        self.assertEqual(taken_back(table), ["tell"] * 4)

    def test_tell_behind_calls(self):
        for table, names in self.tables():
            before = seen(table)
            with self.assertRaises(Done if table.next() is None else NoWorths):
                table.tell(True)
            self.assertEqual(seen(table), before)
            self.assertEqual(taken_back(table), names[::-1])

    def test_exchange(self):
        table = Table(2, FOUR)
        self.refuses(NoPlaces, lambda two: table.exchange(*two), no_two_places())
        table.tell(5)
        self.refuses(NoPlaces, lambda two: table.exchange(*two), no_two_places())
        self.refuses(Done, lambda two: table.exchange(*two), [(0, 1), (1, 0), (0, 3), (3, 0)])
        table.tell(6)
        self.refuses(Done, lambda two: table.exchange(*two), [
            two for two in permutations(range(4), 2) if min(two) < 2])
        self.assertIsNone(table.exchange(3, 2))
        self.assertEqual((table.row(), table.worths()), ((0, 1, 0, 1), [5, 6]))
        self.assertEqual(taken_back(table), ["exchange", "tell", "tell"])

    def test_exchange_behind_calls(self):
        for two in ((0, 0), (0, 64), (-1, 0), (True, 2), (0, None)):
            self.refused(NoPlaces, lambda table: table.exchange(*two))
        for table, names in self.tables():
            if len(table) > 0 and len(table.row()) > 1:
                before = seen(table)
                with self.assertRaises(Done):
                    table.exchange(len(table.row()) - 1, len(table) - 1 if len(table) < len(table.row()) else 0)
                self.assertEqual(seen(table), before)
                self.assertEqual(taken_back(table), names[::-1])

    def test_exchange_where_all_are_through(self):
        table = Table(2, (0, 1))
        table.tell(1)
        table.tell(2)
        self.refuses(Done, lambda two: table.exchange(*two), [(0, 1), (1, 0)])
        self.refuses(NoPlaces, lambda two: table.exchange(*two), [(0, 0), (0, 2), (2, 0), (False, 1)])

    def test_foresee(self):
        table = Table(2, (0, 1, 0, 1, 0, 1))
        for many in range(7):
            wrong = no_lead_orders() + [order for order in (1, 2, 3, 4) if order > many]
            self.refuses(NoOrder, lambda order: table.foresee(0, 1, order), wrong)
            self.refuses(NoHand, lambda two: table.foresee(*two, 1), no_two_hands())
            if many > 0:
                self.refuses(NoBound, lambda bound: table.foresee(0, 1, 1, bound=bound), no_bounds())
                expected = foreseen(2, table.row(), tuple(table.worths()), 0, 1, 1)
                self.assertEqual(table.foresee(0, 1, 1), expected)
                self.assertEqual(table.foresee(0, 1, 1, bound=99)[1] - table.foresee(0, 1, 1, bound=0)[1],
                                 99 * (expected[1] - expected[0]) // 2)
            if many < 6:
                table.tell(many * many)

    def test_the_first_refusal_of_foresee_is_told(self):
        table = Table(2, FOUR)
        table.tell(5)
        self.refuses_first(lambda one, other, order, bound: table.foresee(one, other, order, bound=bound), [
            (0, 0, 0, -1, NoHand), (0, 2, 2, 100, NoHand), (None, None, None, None, NoHand), (True, 0, 1, 1, NoHand),
            (0, 1, 2, -1, NoOrder), (0, 1, True, 100, NoOrder), (0, 1, Prickly(), Prickly(), NoOrder),
            (0, 1, 1, Prickly(), NoBound)])

    def test_the_first_refusal_of_calls_is_told(self):
        table = Table(2, (0, 1))
        table.tell(5)
        self.refuses_first(table.exchange, [(0, 0, NoPlaces), (0, 2, NoPlaces), (0, True, NoPlaces), (0, 1, Done)])
        table.tell(5)
        self.refuses_first(table.tell, [(None, Done), (True, Done), (5, Done), (Prickly(), Done)])

    def test_foresee_behind_calls(self):
        self.refused(NoHand, lambda table: table.foresee(1, 1, 1))
        self.refused(NoOrder, lambda table: table.foresee(0, 1, len(table) + 1))
        self.refused(NoOrder, lambda table: table.foresee(0, 1, 5))
        self.refused(TurnError, lambda table: table.foresee(0, 1, 1, bound=100))

    def test_back(self):
        for hands, row in ROWS:
            table = Table(hands, row)
            for _ in range(2):
                with self.assertRaises(Nothing):
                    table.back()
                self.assertEqual(seen(table), seen(Table(hands, row)))
            table.tell(5)
            self.assertEqual(taken_back(table), ["tell"])
            with self.assertRaises(Nothing):
                table.back()


if __name__ == "__main__":
    unittest.main()
