"""The queries about price lists: 12 to 15."""

import unittest
from itertools import product
from math import comb

from tests.helper import HUGE, last, planner_calls, run, slow_attendance, slow_is_ordered, slow_ordered, slow_revenue
from tests.helper import some_planners

QUERIES = ("total_revenue", "is_ordered", "total_attendance")

# Three blocks at prices from 0 to 3, of which the second one has fewer seats than demand at 0 and 1.
THREE = planner_calls(3, 1, [(9, [9, 6, 5, 0]), (4, [9, 8, 3, 2]), (7, [7, 7, 1, 1])])


def wide_planner(count, max_price, max_step):
    return planner_calls(max_price, max_step, [(1, [1] * (max_price + 1))] * count)


class WrongLists(unittest.TestCase):
    def test_length(self):
        for count in range(6):
            for length in range(13):
                for name in QUERIES:
                    with self.subTest(name=name, count=count, length=length):
                        told = last(*wide_planner(count, 7, 7), (name, [0] * length))
                        self.assertEqual(told == [-22], length != count)

    def test_prices_up_to_max_price(self):
        for max_price in range(1, 8):
            for price in (0, max_price - 1, max_price, max_price + 1, 8, 999, 65535):
                for name in QUERIES:
                    for place in range(3):
                        with self.subTest(name=name, max_price=max_price, price=price, place=place):
                            prices = [0, 0, 0]
                            prices[place] = price
                            told = last(*wide_planner(3, max_price, 7), (name, prices))
                            self.assertEqual(told == [-22], price > max_price)

    def test_wrong_in_both_ways(self):
        for name in QUERIES:
            self.assertEqual(last(*THREE, (name, [4, 4, 4, 4])), [-22])
            self.assertEqual(last(*THREE, (name, [4])), [-22])
            self.assertEqual(last(("create", 1, 0), (name, [2])), [-22])

    def test_a_list_fits_the_blocks_that_are_there_now(self):
        for name in QUERIES:
            told = run(*THREE, ("remove_block", 1), (name, [0, 0, 0]), (name, [0, 0]), ("add_block", 0, [0] * 4),
                       (name, [0, 0]), (name, [0, 0, 0]))[5:]
            self.assertEqual([row == [-22] for row in told], [True, False, False, True, False])


class TotalRevenue(unittest.TestCase):
    def test_without_blocks(self):
        self.assertEqual(last(("create", 7, 0), ("total_revenue", [])), [0])

    def test_one_block(self):
        calls = planner_calls(3, 0, [(6, [9, 6, 5, 0])])
        self.assertEqual(run(*calls, *[("total_revenue", [price]) for price in range(4)])[2:], [[0], [6], [10], [0]])

    def test_ordered_and_not(self):
        for prices, told in (
            ([0, 0, 0], 0), ([2, 1, 1], 10 + 4 + 7), ([0, 1, 2], 0 + 4 + 2), ([3, 3, 3], 0 + 6 + 3), ([2, 0, 1], 17),
            ([1, 3, 0], 12),
        ):
            with self.subTest(prices=prices):
                self.assertEqual(last(*THREE, ("total_revenue", prices)), [told])

    def test_greatest(self):
        calls = planner_calls(7, 0, [(999, [999] * 8)] * 5)
        self.assertEqual(last(*calls, ("total_revenue", [7] * 5)), [34965])

    def test_without_seats_and_without_demand(self):
        calls = planner_calls(2, 0, [(0, [999, 999, 999]), (999, [0, 0, 0])])
        for prices in product(range(3), repeat=2):
            self.assertEqual(last(*calls, ("total_revenue", list(prices))), [0])

    def test_of_the_best_prices(self):
        for max_price, max_step, blocks in some_planners(60):
            calls = planner_calls(max_price, max_step, blocks)
            for told in run(*calls, ("best_prices",), ("unconstrained_prices",))[-2:]:
                self.assertEqual(last(*calls, ("total_revenue", told[1:])), told[:1])


class TotalAttendance(unittest.TestCase):
    def test_without_blocks(self):
        self.assertEqual(last(("create", 7, 0), ("total_attendance", [])), [0])

    def test_one_block(self):
        calls = planner_calls(3, 0, [(6, [9, 6, 5, 0])])
        self.assertEqual(run(*calls, *[("total_attendance", [price]) for price in range(4)])[2:], [[6], [6], [5], [0]])

    def test_ordered_and_not(self):
        for prices, told in (
            ([0, 0, 0], 9 + 4 + 7), ([2, 1, 1], 5 + 4 + 7), ([0, 1, 2], 9 + 4 + 1), ([3, 3, 3], 0 + 2 + 1),
            ([2, 0, 1], 16), ([1, 3, 0], 15),
        ):
            with self.subTest(prices=prices):
                self.assertEqual(last(*THREE, ("total_attendance", prices)), [told])

    def test_greatest(self):
        calls = planner_calls(7, 0, [(999, [999] * 8)] * 5)
        self.assertEqual(last(*calls, ("total_attendance", [0] * 5)), [4995])


class TotalsOfEveryList(unittest.TestCase):
    def test_as_by_adding_block_by_block(self):
        blocks = [(3, [9, 3, 2, 0]), (9, [8, 6, 6, 5]), (5, [7, 5, 4, 1])]
        for prices in product(range(4), repeat=3):
            with self.subTest(prices=prices):
                told = run(
                    *planner_calls(3, 1, blocks),
                    ("total_revenue", list(prices)),
                    ("total_attendance", list(prices)),
                )[-2:]
                self.assertEqual(told, [[slow_revenue(blocks, prices)], [slow_attendance(blocks, prices)]])


class IsOrdered(unittest.TestCase):
    def test_without_blocks_and_with_one(self):
        self.assertEqual(last(("create", 7, 0), ("is_ordered", [])), [1])
        for price in range(8):
            self.assertEqual(last(*wide_planner(1, 7, 0), ("is_ordered", [price])), [1])

    def test_two_neighbours(self):
        for max_step in range(8):
            for better, worse in product(range(8), repeat=2):
                with self.subTest(max_step=max_step, better=better, worse=worse):
                    told = last(*wide_planner(2, 7, max_step), ("is_ordered", [better, worse]))
                    self.assertEqual(told, [1 if 0 <= better - worse <= max_step else 0])

    def test_all_neighbours_count(self):
        for prices, told in (
            ([7, 5, 3, 1, 0], 1),
            ([6, 4, 4, 2, 0], 1),
            ([3, 3, 3, 3, 3], 1),
            ([7, 4, 3, 2, 1], 0),
            ([7, 6, 3, 2, 1], 0),
            ([7, 6, 5, 2, 1], 0),
            ([7, 6, 5, 4, 1], 0),
            ([3, 4, 3, 3, 3], 0),
            ([3, 3, 4, 3, 3], 0),
            ([3, 3, 3, 4, 3], 0),
            ([3, 3, 3, 3, 4], 0),
        ):
            with self.subTest(prices=prices):
                self.assertEqual(last(*wide_planner(5, 7, 2), ("is_ordered", prices)), [told])

    def test_every_list_of_three(self):
        for max_step in (0, 1, 2, 7):
            calls = wide_planner(3, 4, max_step)
            lists = [list(prices) for prices in product(range(5), repeat=3)]
            told = run(*calls, *[("is_ordered", prices) for prices in lists])[len(calls):]
            self.assertEqual(told, [[1 if slow_is_ordered(prices, max_step) else 0] for prices in lists])

    def test_follows_the_step(self):
        self.assertEqual(
            run(
                *wide_planner(2, 7, 2),
                ("is_ordered", [5, 2]),
                ("set_max_step", 3),
                ("is_ordered", [5, 2]),
                ("set_max_step", 2),
                ("is_ordered", [5, 2]),
            )[3:],
            [[0], [2], [1], [3], [0]],
        )


class CountOrdered(unittest.TestCase):
    def test_without_blocks_there_is_one(self):
        for max_step in (0, 7):
            self.assertEqual(last(("create", 7, max_step), ("count_ordered",)), [1])

    def test_one_block_has_a_list_for_each_price(self):
        for max_price in range(1, 8):
            for max_step in (0, 1, 7):
                self.assertEqual(last(*wide_planner(1, max_price, max_step), ("count_ordered",)), [max_price + 1])

    def test_step_0_has_a_list_for_each_price(self):
        for count in range(1, 6):
            self.assertEqual(last(*wide_planner(count, 6, 0), ("count_ordered",)), [7])

    def test_step_7_leaves_the_falling_lists(self):
        for count in range(6):
            for max_price in (1, 4, 7):
                told = last(*wide_planner(count, max_price, 7), ("count_ordered",))
                self.assertEqual(told, [comb(max_price + count, count)])

    def test_two_blocks_by_hand(self):
        # 0 0, 1 0, 1 1, 2 1, 2 2
        self.assertEqual(last(*wide_planner(2, 2, 1), ("count_ordered",)), [5])

    def test_as_by_trying_every_list(self):
        for max_price in (1, 2, 3, 7):
            for max_step in range(8):
                for count in range(5):
                    with self.subTest(max_price=max_price, max_step=max_step, count=count):
                        self.assertEqual(
                            last(*wide_planner(count, max_price, max_step), ("count_ordered",)),
                            [len(slow_ordered(count, max_price, max_step))],
                        )

    def test_does_not_hang_on_seats_and_demand(self):
        blocks = [(0, [999, 999, 999]), (999, [0, 0, 0]), (5, [9, 1, 0])]
        self.assertEqual(
            last(*planner_calls(2, 1, blocks), ("count_ordered",)),
            last(*wide_planner(3, 2, 1), ("count_ordered",)),
        )


class HugeRows(unittest.TestCase):
    def test_refused_without_blocks_too(self):
        for name in QUERIES:
            self.assertEqual(last(("create", 7, 7), (name, [65535] * 12)), [-22])
            self.assertEqual(last(*THREE, ("set_max_step", HUGE), (name, [65535] * 3)), [-22])
