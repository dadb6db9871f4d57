"""The queries: 7 to 11."""

import unittest

from tests.helper import HUGE, last, planner_calls, run, slow_best, slow_is_ordered, slow_singles, slow_tables
from tests.helper import some_planners

ONE = [("create", 3, 1), ("add_block", 6, [9, 6, 5, 0])]


class AttendanceAndRevenue(unittest.TestCase):
    def test_seats_or_demand_whichever_is_less(self):
        self.assertEqual(
            run(*ONE, *[("attendance", 0, price) for price in range(4)])[2:],
            [[6], [6], [5], [0]],
        )

    def test_revenue(self):
        self.assertEqual(
            run(*ONE, *[("revenue", 0, price) for price in range(4)])[2:],
            [[0], [6], [10], [0]],
        )

    def test_of_that_block(self):
        calls = [*ONE, ("add_block", 2, [3, 3, 3, 1]), ("attendance", 1, 2), ("revenue", 1, 2), ("revenue", 1, 3)]
        self.assertEqual(run(*calls)[3:], [[2], [4], [3]])

    def test_without_seats(self):
        calls = [("create", 1, 0), ("add_block", 0, [999, 999]), ("attendance", 0, 1), ("revenue", 0, 1)]
        self.assertEqual(run(*calls)[2:], [[0], [0]])

    def test_greatest(self):
        calls = [("create", 7, 0), ("add_block", 999, [999] * 8), ("attendance", 0, 7), ("revenue", 0, 7)]
        self.assertEqual(run(*calls)[2:], [[999], [6993]])

    def test_errors_in_their_order(self):
        for name in ("attendance", "revenue"):
            for block, price, told in (
                (0, 3, 0), (0, 4, -22), (0, 8, -22), (0, HUGE, -22), (1, 3, -2), (1, 4, -2), (HUGE, HUGE, -2),
            ):
                with self.subTest(name=name, block=block, price=price):
                    self.assertEqual(last(*ONE, (name, block, price)), [told])

    def test_never_more_than_the_seats_and_never_more_at_a_higher_price(self):
        for max_price, max_step, blocks in some_planners(60):
            for block in range(len(blocks)):
                calls = [("attendance", block, price) for price in range(max_price + 1)]
                told = run(*planner_calls(max_price, max_step, blocks), *calls)[1 + len(blocks):]
                self.assertEqual(told, sorted(told, reverse=True))
                self.assertLessEqual(told[0][0], blocks[block][0])


class BestPrices(unittest.TestCase):
    def test_without_blocks(self):
        self.assertEqual(run(("create", 7, 0), ("best_prices",)), [[0], [0]])

    def test_one_block_has_its_best_single_price(self):
        self.assertEqual(last(*ONE, ("best_prices",)), [10, 2])

    def test_of_several_the_lexicographically_smallest(self):
        for blocks, told in (
            # 1 * 2 and 2 * 1
            ([(9, [2, 2, 1])], [2, 1]),
            # nobody comes
            ([(0, [9, 9, 9]), (9, [0, 0, 0])], [0, 0, 0]),
            # 1, 1 and 2, 1 and 2, 2 earn the same
            ([(9, [2, 2, 1]), (9, [2, 2, 1])], [4, 1, 1]),
            # 1, 0 and 1, 1 earn the same
            ([(9, [2, 2, 1]), (9, [9, 0, 0])], [2, 1, 0]),
            # 2, 1 and 2, 2 earn the same
            ([(9, [1, 1, 1]), (9, [2, 2, 1])], [4, 2, 1]),
        ):
            with self.subTest(blocks=blocks):
                self.assertEqual(last(*planner_calls(2, 1, blocks), ("best_prices",)), told)

    def test_a_better_block_is_never_cheaper(self):
        blocks = [(5, [5, 5, 0, 0]), (5, [5, 5, 5, 5])]
        self.assertEqual(last(*planner_calls(3, 7, blocks), ("best_prices",)), [15, 3, 3])

    def test_step_0_gives_one_price_for_all(self):
        blocks = [(9, [9, 9, 9, 9]), (9, [9, 9, 0, 0]), (9, [9, 8, 8, 0])]
        self.assertEqual(last(*planner_calls(3, 0, blocks), ("best_prices",)), [34, 2, 2, 2])

    def test_the_step_holds_between_all_neighbours(self):
        blocks = [(9, [9] * dear + [0] * (8 - dear)) for dear in (8, 6, 4, 2, 1)]
        self.assertEqual(last(*planner_calls(7, 2, blocks), ("best_prices",)), [144, 7, 5, 3, 1, 0])
        self.assertEqual(last(*planner_calls(7, 1, blocks), ("best_prices",)), slow_best(blocks, 7, 1))

    def test_as_by_trying_every_list(self):
        for max_price, max_step, blocks in some_planners(150):
            with self.subTest(max_price=max_price, max_step=max_step, blocks=blocks):
                self.assertEqual(
                    last(*planner_calls(max_price, max_step, blocks), ("best_prices",)),
                    slow_best(blocks, max_price, max_step),
                )

    def test_a_larger_step_never_earns_less(self):
        for max_price, max_step, blocks in some_planners(60):
            calls = planner_calls(max_price, 0, blocks)
            for step in range(8):
                calls.extend([("set_max_step", step), ("best_prices",)])
            totals = [told[0] for told in run(*calls)[2 + len(blocks)::2]]
            self.assertEqual(totals, sorted(totals))

    def test_equal_blocks_need_one_price_alone(self):
        for max_price, max_step, blocks in some_planners(60):
            equal = blocks[:1] * len(blocks)
            told = last(*planner_calls(max_price, max_step, equal), ("best_prices",))
            self.assertEqual(told[0], sum(max(table) for table in slow_tables(equal)))

    def test_follow_every_change(self):
        self.assertEqual(
            run(
                ("create", 2, 2),
                ("add_block", 5, [5, 5, 5]),
                ("best_prices",),
                ("add_block", 5, [5, 5, 0]),
                ("best_prices",),
                ("set_max_step", 0),
                ("best_prices",),
                ("set_seats", 1, 0),
                ("best_prices",),
                ("set_demand", 0, [5, 5, 1]),
                ("best_prices",),
                ("swap_blocks", 0, 1),
                ("unconstrained_prices",),
                ("remove_block", 1),
                ("best_prices",),
            )[2::2],
            [[10, 2], [15, 2, 1], [10, 1, 1], [10, 2, 2], [5, 1, 1], [5, 0, 1], [0, 0]],
        )


class UnconstrainedPrices(unittest.TestCase):
    def test_without_blocks(self):
        self.assertEqual(run(("create", 7, 0), ("unconstrained_prices",)), [[0], [0]])

    def test_need_not_be_ordered(self):
        blocks = [(5, [5, 5, 0, 0]), (5, [5, 5, 5, 5]), (5, [5, 0, 0, 0])]
        self.assertEqual(last(*planner_calls(3, 0, blocks), ("unconstrained_prices",)), [20, 1, 3, 0])

    def test_of_several_the_lowest(self):
        # 6 at the prices 1, 2 and 3; 6 at the prices 2 and 3; 0 at every price
        blocks = [(9, [6, 6, 3, 2]), (9, [9, 5, 3, 2]), (0, [9, 9, 9, 9])]
        self.assertEqual(last(*planner_calls(3, 0, blocks), ("unconstrained_prices",)), [12, 1, 2, 0])

    def test_as_by_trying_every_price(self):
        for max_price, max_step, blocks in some_planners(150):
            with self.subTest(max_price=max_price, max_step=max_step, blocks=blocks):
                self.assertEqual(
                    last(*planner_calls(max_price, max_step, blocks), ("unconstrained_prices",)),
                    slow_singles(blocks),
                )

    def test_never_earn_less_than_the_best_prices_and_as_much_if_ordered(self):
        for max_price, max_step, blocks in some_planners(150):
            calls = planner_calls(max_price, max_step, blocks)
            best, single = run(*calls, ("best_prices",), ("unconstrained_prices",))[-2:]
            self.assertGreaterEqual(single[0], best[0])
            if slow_is_ordered(single[1:], max_step):
                self.assertEqual(single[0], best[0])


class OrderingLoss(unittest.TestCase):
    def test_without_blocks_and_with_one(self):
        self.assertEqual(run(("create", 7, 0), ("ordering_loss",)), [[0], [0]])
        self.assertEqual(last(*ONE, ("ordering_loss",)), [0])

    def test_lost_by_the_step(self):
        blocks = [(9, [9, 9, 9, 9]), (9, [9, 9, 0, 0])]
        self.assertEqual(last(*planner_calls(3, 1, blocks), ("ordering_loss",)), [9])
        self.assertEqual(last(*planner_calls(3, 2, blocks), ("ordering_loss",)), [0])

    def test_is_the_difference(self):
        for max_price, max_step, blocks in some_planners(60):
            with self.subTest(max_price=max_price, max_step=max_step, blocks=blocks):
                self.assertEqual(
                    last(*planner_calls(max_price, max_step, blocks), ("ordering_loss",)),
                    [slow_singles(blocks)[0] - slow_best(blocks, max_price, max_step)[0]],
                )
