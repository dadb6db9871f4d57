"""The document's requirements 1 to 5, over many planners."""

import unittest
from itertools import product

from tests.helper import last, planner_calls, run, slow_is_ordered, slow_ordered, slow_revenue, some_planners


class TheBestPricesAreOptimal(unittest.TestCase):
    def test_ordered_and_none_earns_more(self):
        for max_price, max_step, blocks in some_planners(90):
            with self.subTest(max_price=max_price, max_step=max_step, blocks=blocks):
                calls = planner_calls(max_price, max_step, blocks)
                total, *prices = last(*calls, ("best_prices",))
                self.assertEqual(
                    run(*calls, ("is_ordered", prices), ("total_revenue", prices))[-2:],
                    [[1], [total]],
                )
                for ordered in slow_ordered(len(blocks), max_price, max_step):
                    self.assertLessEqual(slow_revenue(blocks, ordered), total)

    def test_no_list_that_the_program_calls_ordered_earns_more(self):
        for max_price, max_step, blocks in some_planners(60):
            if (max_price + 1) ** len(blocks) > 120:
                continue
            calls = planner_calls(max_price, max_step, blocks)
            total = last(*calls, ("best_prices",))[0]
            for prices in product(range(max_price + 1), repeat=len(blocks)):
                ordered, earned = run(*calls, ("is_ordered", list(prices)), ("total_revenue", list(prices)))[-2:]
                if ordered == [1]:
                    self.assertLessEqual(earned[0], total)


class UnconstrainedPricesAreABound(unittest.TestCase):
    def test_at_least_the_best_prices_and_equal_if_ordered(self):
        ordered_ones = 0
        for max_price, max_step, blocks in some_planners(150):
            calls = planner_calls(max_price, max_step, blocks)
            best, single, loss = run(*calls, ("best_prices",), ("unconstrained_prices",), ("ordering_loss",))[-3:]
            self.assertGreaterEqual(single[0], best[0])
            self.assertEqual(loss, [single[0] - best[0]])
            if last(*calls, ("is_ordered", single[1:])) == [1]:
                self.assertTrue(slow_is_ordered(single[1:], max_step))
                self.assertEqual(single[0], best[0])
                ordered_ones += len(blocks) > 1
        self.assertGreater(ordered_ones, 0)

    def test_are_the_best_single_prices(self):
        for max_price, max_step, blocks in some_planners(60):
            calls = planner_calls(max_price, max_step, blocks)
            total, *prices = last(*calls, ("unconstrained_prices",))
            singles = [last(*calls, ("best_single_price", block)) for block in range(len(blocks))]
            self.assertEqual(prices, [price for price, earned in singles])
            self.assertEqual(total, sum(earned for price, earned in singles))


class Monotonicity(unittest.TestCase):
    def test_a_larger_step_never_earns_less(self):
        for max_price, max_step, blocks in some_planners(90):
            calls = planner_calls(max_price, max_step, blocks)
            steps = [("revenue_if_step", step) for step in range(8)]
            totals = [told[0] for told in run(*calls, *steps)[len(calls):]]
            self.assertEqual(totals, sorted(totals))
            self.assertEqual(totals[max_step], last(*calls, ("best_prices",))[0])

    def test_a_larger_step_never_has_fewer_lists(self):
        for max_price, max_step, blocks in some_planners(30):
            calls = planner_calls(max_price, max_step, blocks)
            for step in range(8):
                calls.extend([("set_max_step", step), ("count_ordered",)])
            counts = [told[0] for told in run(*calls)[2 + len(blocks)::2]]
            self.assertEqual(counts, sorted(counts))


class EqualBlocks(unittest.TestCase):
    def test_one_price_for_all_reaches_the_best_total(self):
        for max_price, max_step, blocks in some_planners(90):
            equal = blocks[:1] * len(blocks)
            calls = planner_calls(max_price, max_step, equal)
            best = last(*calls, ("best_prices",))
            lists = [[price] * len(equal) for price in range(max_price + 1)]
            told = run(*calls, *[("total_revenue", prices) for prices in lists])[len(calls):]
            self.assertEqual(max(told), best[:1])


class Attendance(unittest.TestCase):
    def test_at_most_the_seats_and_never_more_at_a_higher_price(self):
        for max_price, max_step, blocks in some_planners(60):
            calls = planner_calls(max_price, max_step, blocks)
            for block, (seats, demand) in enumerate(blocks):
                asked = [("attendance", block, price) for price in range(max_price + 1)]
                told = run(*calls, *asked)[len(calls):]
                self.assertEqual(told, sorted(told, reverse=True))
                self.assertLessEqual(told[0][0], seats)

    def test_of_whole_lists_too(self):
        for max_price, max_step, blocks in some_planners(60):
            calls = planner_calls(max_price, max_step, blocks)
            asked = [("total_attendance", [price] * len(blocks)) for price in range(max_price + 1)]
            told = run(*calls, *asked)[len(calls):]
            self.assertEqual(told, sorted(told, reverse=True))
            self.assertLessEqual(told[0][0], sum(seats for seats, demand in blocks))
