import copy
import inspect
import itertools
import unittest

from roadpence import moneys
from roadpence.errors import NoRate, NoRates, PenceError
from roadpence.moneys import rate_on, share_of
from roadpence.spendings import Spending
from tests import by_hand
from tests.samples import deep_list, far_numbers, no_numbers, objects

SIDE = 10 ** 6
RATES = ((1, 0, 3, 2), (1, 10, 5, 4), (1, 11, 7, 8), (2, 5, 1, 3), (3, 59, 9, 1))
TWELVE = tuple((money, day, money + day, 10 * money + day) for money in (1, 2, 3) for day in (0, 20, 40, 59))
# Nothing is wrong with these but how many they are.
THIRTEEN = tuple((1, day, 1, 1) for day in range(13))


def no_tuples():
    """Tell things that are no tuple."""
    things = [0, 1, True, False, "", "rates", [], [(1, 0, 1, 1)], {}, {0: (1, 0, 1, 1)}, deep_list(80)]
    return [*things, *far_numbers(), *objects()]


class MoneyTest(unittest.TestCase):
    def assert_rate(self, rates, money, day, rate):
        told = rate_on(rates, money, day)
        self.assertEqual(told, rate)
        self.assertIs(type(told), tuple)
        self.assertEqual([type(side) for side in told], [int, int])

    def assert_no_rate(self, money, day, ask, *args, **named):
        with self.assertRaises(NoRate) as caught:
            ask(*args, **named)
        self.assertEqual((caught.exception.money, caught.exception.day), (money, day))
        self.assertNotIsInstance(caught.exception, PenceError)

    def assert_no_rates(self, rates):
        """See that these are refused wherever rates are handed in, ahead of NoRate, and of money 0, too."""
        for money in (0, 1, 2, 3):
            with self.assertRaises(NoRates):
                rate_on(rates, money, 0)
            if rates is not None:
                with self.assertRaises(NoRates):
                    share_of(Spending("meal", 1, money=money), rates)

    def assert_share(self, told, spending, *rates):
        share = share_of(spending, *rates)
        self.assertEqual(share, told)
        self.assertIs(type(share), int)


class Interface(unittest.TestCase):
    def test_signatures(self):
        self.assertEqual(str(inspect.signature(rate_on)), "(rates, money, day)")
        self.assertEqual(str(inspect.signature(share_of)), "(spending, rates=None)")

    def test_defined_in_this_file(self):
        self.assertEqual(rate_on.__module__, moneys.__name__)
        self.assertEqual(share_of.__module__, moneys.__name__)


class Rate(MoneyTest):
    """Point 20, the rate of a money on a day."""

    def test_at_ahead_of_and_behind_the_days_of_the_rows(self):
        for money, day, rate in (
            (1, 0, (3, 2)),
            (1, 1, (3, 2)),
            (1, 9, (3, 2)),
            (1, 10, (5, 4)),
            (1, 11, (7, 8)),
            (1, 12, (7, 8)),
            (1, 59, (7, 8)),
            (2, 5, (1, 3)),
            (2, 6, (1, 3)),
            (2, 59, (1, 3)),
            (3, 59, (9, 1)),
        ):
            with self.subTest(money=money, day=day):
                self.assert_rate(RATES, money, day, rate)

    def test_none(self):
        for money, day in ((2, 0), (2, 4), (3, 0), (3, 58)):
            self.assert_no_rate(money, day, rate_on, RATES, money, day)
        for money in (1, 2, 3):
            for day in (0, 30, 59):
                self.assert_no_rate(money, day, rate_on, (), money, day)
        self.assert_no_rate(2, 59, rate_on, ((1, 0, 1, 1), (3, 0, 1, 1)), 2, 59)

    def test_money_0(self):
        for rates in ((), RATES, TWELVE, ((1, 0, 7, 3),)):
            for day in (0, 30, 59):
                self.assert_rate(rates, 0, day, (1, 1))

    def test_by_names(self):
        self.assertEqual(rate_on(rates=RATES, money=1, day=10), (5, 4))
        self.assertEqual(rate_on(day=10, money=1, rates=RATES), (5, 4))
        self.assertEqual(rate_on(RATES, day=10, money=1), (5, 4))

    def test_none_to_twelve_rows_on_each_day(self):
        for many in range(13):
            for rates in (TWELVE[:many], TWELVE[12 - many:]):
                for money, day in itertools.product(range(4), range(60)):
                    rate = by_hand.rate(rates, money, day)
                    if rate is None:
                        self.assert_no_rate(money, day, rate_on, rates, money, day)
                    else:
                        self.assert_rate(rates, money, day, rate)

    def test_each_number_at_its_bounds(self):
        for row in itertools.product((1, 2, 3), (0, 59), (1, SIDE), (1, SIDE)):
            self.assert_rate((row,), row[0], 59, row[2:])

    def test_tops_and_bottoms_need_not_rise(self):
        rates = ((1, 0, 9, 9), (1, 1, 1, 1), (2, 0, 5, 5))
        self.assert_rate(rates, 1, 1, (1, 1))
        self.assert_rate(rates, 2, 1, (5, 5))

    def test_the_rates_stay_and_the_same_again(self):
        rates = copy.deepcopy(RATES)
        for _ in range(3):
            self.assert_rate(rates, 1, 10, (5, 4))
            self.assert_no_rate(2, 4, rate_on, rates, 2, 4)
            self.assertEqual(rates, RATES)


class NoneSuch(MoneyTest):
    """Point 20, what are no rates."""

    def test_what_is_no_tuple(self):
        for rates in no_tuples():
            with self.subTest(rates=rates):
                self.assert_no_rates(rates)

    def test_a_list_for_the_tuple(self):
        self.assert_no_rates([])
        self.assert_no_rates(list(RATES))

    def test_none_for_the_rates(self):
        self.assert_no_rates(None)

    def test_thirteen_rows(self):
        self.assert_no_rates(THIRTEEN)
        self.assert_rate(THIRTEEN[:12], 1, 59, (1, 1))
        self.assert_rate(THIRTEEN[1:], 1, 59, (1, 1))

    def test_one_money_and_day_twice(self):
        self.assert_no_rates(((1, 0, 1, 1), (1, 0, 1, 1)))
        self.assert_no_rates(((1, 0, 1, 1), (1, 0, 2, 1)))
        self.assert_no_rates(((1, 0, 1, 1), (1, 0, 1, 2)))
        self.assert_no_rates(((1, 0, 1, 1), (3, 59, 1, 1), (3, 59, 2, 2)))

    def test_rows_that_do_not_rise(self):
        self.assert_no_rates(((1, 1, 1, 1), (1, 0, 2, 2)))
        self.assert_no_rates(((2, 0, 1, 1), (1, 1, 2, 2)))
        self.assert_no_rates(((1, 0, 2, 2), (1, 0, 1, 1)))
        for at in range(11):
            rows = list(TWELVE)
            rows[at], rows[at + 1] = rows[at + 1], rows[at]
            self.assert_no_rates(tuple(rows))

    def test_rows_of_another_length(self):
        for row in ((), (1,), (1, 0), (1, 0, 1), (1, 0, 1, 1, 1)):
            self.assert_no_rates((row,))
            self.assert_no_rates(((1, 0, 1, 1), row))
            self.assert_no_rates((row, (3, 59, 1, 1)))

    def test_each_number_of_a_row_otherwise(self):
        wrong = ((0, 4, -1), (-1, 60), (0, -1, SIDE + 1), (0, -1, SIDE + 1))
        for at, numbers in enumerate(wrong):
            for thing in (*numbers, *far_numbers(), *no_numbers()):
                with self.subTest(at=at, thing=thing):
                    row = [2, 30, 5, 7]
                    row[at] = thing
                    self.assert_no_rates((tuple(row),))
                    self.assert_no_rates(((1, 0, 1, 1), tuple(row)))
                    self.assert_no_rates((tuple(row), (3, 59, 1, 1)))

    def test_what_is_no_row(self):
        for row in (*no_tuples(), None, [1, 0, 1, 1], [2, 0, 5, 7], "2057", {0: 2, 1: 0, 2: 5, 3: 7}):
            with self.subTest(row=row):
                self.assert_no_rates((row,))
                self.assert_no_rates(((1, 0, 1, 1), row))
                self.assert_no_rates((row, (3, 59, 1, 1)))

    def test_a_row_for_the_rates(self):
        self.assert_no_rates((1, 0, 1, 1))

    def test_what_is_wrong_in_the_last_of_twelve(self):
        self.assert_no_rates((*TWELVE[:11], (3, 59, 0, 1)))
        self.assert_no_rates((*TWELVE[:11], [3, 59, 1, 1]))

    def test_what_is_refused_is_not_changed(self):
        rates = [[2, 0, 1, 1], (1, 0, 1, 1)]
        kept = copy.deepcopy(rates)
        for _ in range(3):
            self.assert_no_rates(rates)
            self.assert_no_rates(tuple(rates))
        self.assertEqual(rates, kept)


class Share(MoneyTest):
    """Point 21."""

    def test_money_0(self):
        for amount, heads, told in (
            (1, 1, 1),
            (1250, 1, 1250),
            (SIDE, 1, SIDE),
            (1, 2, 1),
            (1, 3, 0),
            (2, 3, 1),
            (5, 2, 3),
            (7, 2, 4),
            (1, 6, 0),
            (2, 6, 0),
            (3, 6, 1),
            (4, 6, 1),
            (9, 6, 2),
            (15, 6, 3),
            (SIDE, 6, 166667),
            (SIDE, 3, 333333),
        ):
            with self.subTest(amount=amount, heads=heads):
                for rates in ((), (None,), ((),), (RATES,)):
                    self.assert_share(told, Spending("meal", amount, heads=heads), *rates)

    def test_other_moneys(self):
        for amount, day, heads, money, told in (
            (100, 0, 1, 1, 150),
            (100, 9, 1, 1, 150),
            (100, 10, 1, 1, 125),
            (100, 11, 1, 1, 88),
            (100, 11, 4, 1, 22),
            (100, 5, 1, 2, 33),
            (200, 5, 1, 2, 67),
            (100, 59, 6, 3, 150),
        ):
            with self.subTest(amount=amount, day=day, heads=heads, money=money):
                self.assert_share(told, Spending("bed", amount, day, True, heads, money), RATES)

    def test_about_half_a_penny(self):
        rates = ((1, 0, 1, SIDE),)
        for amount, told in ((499999, 0), (500000, 1), (500001, 1), (SIDE, 1)):
            self.assert_share(told, Spending("fee", amount, money=1), rates)
        rates = ((1, 0, 2 * 10 ** 5 + 1, 2),)
        self.assert_share(100001, Spending("fee", 1, money=1), rates)
        self.assert_share(200001, Spending("fee", 2, money=1), rates)
        rates = ((1, 0, 999999, SIDE),)
        self.assert_share(499999, Spending("fee", 499999, money=1), rates)
        self.assert_share(500000, Spending("fee", 500000, money=1), rates)
        self.assert_share(500000, Spending("fee", 500001, money=1), rates)
        rates = ((1, 0, 1, 3),)
        self.assert_share(1, Spending("fee", 3, heads=2, money=1), rates)
        self.assert_share(0, Spending("fee", 4, heads=3, money=1), rates)
        self.assert_share(1, Spending("fee", 5, heads=3, money=1), rates)

    def test_rounded_once(self):
        rates = ((1, 0, 1, 2),)
        self.assert_share(0, Spending("fee", 1, heads=2, money=1), rates)
        self.assert_share(1, Spending("fee", 5, heads=2, money=1), rates)
        self.assert_share(0, Spending("fee", 1, heads=6, money=1), rates)

    def test_bounds(self):
        top = ((1, 0, SIDE, 1),)
        self.assert_share(10 ** 12, Spending("bed", SIDE, money=1), top)
        self.assert_share(166666666667, Spending("bed", SIDE, heads=6, money=1), top)
        self.assert_share(SIDE, Spending("bed", 1, money=1), top)
        low = ((1, 0, 1, SIDE),)
        self.assert_share(0, Spending("bed", 1, heads=6, money=1), low)
        self.assert_share(0, Spending("bed", 1, money=1), low)
        self.assert_share(SIDE, Spending("bed", SIDE, money=1), ((1, 0, SIDE, SIDE),))

    def test_many_against_fractions(self):
        sides = (1, 2, 3, 7, 10, 999, 999999, SIDE)
        for top, bottom in itertools.product(sides, sides):
            for amount, heads in itertools.product((1, 2, 3, 5, 8, 35, 999, 499999, 500000, SIDE), range(1, 7)):
                spending = Spending("ride", amount, 7, heads=heads, money=2)
                rates = ((2, 7, top, bottom),)
                self.assert_share(by_hand.share(spending, rates), spending, rates)

    def test_kind_and_paper_play_no_part(self):
        for kind in ("bed", "fee", "meal", "ride", "sundry"):
            for paper in (True, False):
                self.assert_share(33, Spending(kind, 100, 5, paper, 1, 2), RATES)

    def test_by_names(self):
        self.assertEqual(share_of(spending=Spending("bed", 100, 10, money=1), rates=RATES), 125)
        self.assertEqual(share_of(rates=RATES, spending=Spending("bed", 100, 10, money=1)), 125)
        self.assertEqual(share_of(spending=Spending("bed", 100)), 100)

    def test_rates_left_out_and_none(self):
        for day in (0, 59):
            for money in (1, 2, 3):
                spending = Spending("bed", 100, day, money=money)
                self.assert_no_rate(money, day, share_of, spending)
                self.assert_no_rate(money, day, share_of, spending, None)
                self.assert_no_rate(money, day, share_of, spending, ())
                self.assert_no_rate(money, day, share_of, spending=spending, rates=None)

    def test_no_rate(self):
        for money, day in ((2, 4), (3, 58)):
            spending = Spending("bed", 100, day, money=money)
            self.assert_no_rate(money, day, share_of, spending, RATES)

    def test_no_rates(self):
        for rates in (*no_tuples(), THIRTEEN, (None,), ((1, 0, 1),), ((2, 0, 1, 1), (1, 0, 1, 1))):
            for money in range(4):
                with self.subTest(rates=rates, money=money), self.assertRaises(NoRates):
                    share_of(Spending("bed", 100, money=money), rates)

    def test_the_spending_and_the_rates_stay_and_the_same_again(self):
        spending, rates = Spending("bed", 100, 10, False, 2, 1), copy.deepcopy(RATES)
        for _ in range(3):
            self.assert_share(63, spending, rates)
            self.assertEqual(repr(spending), "Spending('bed', 100, day=10, paper=False, heads=2, money=1)")
            self.assertEqual(rates, RATES)


if __name__ == "__main__":
    unittest.main()
