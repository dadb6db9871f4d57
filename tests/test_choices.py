"""The queries that choose prices under a condition: 16 to 20."""

import unittest

from tests.helper import HUGE, last, planner_calls, run, slow_attendance, slow_best, slow_first_best, slow_ordered
from tests.helper import slow_singles, some_planners

ONE = planner_calls(3, 1, [(6, [9, 6, 5, 0])])

# Alone the first block would cost 1 and the second one 3.
TWO = [(5, [5, 5, 0, 0]), (5, [5, 5, 5, 5])]


def planners_with_steps(count):
    for max_price, max_step, blocks in some_planners(count):
        for step in sorted({0, max_step, 7}):
            yield max_price, step, blocks


class BestWithPrice(unittest.TestCase):
    def test_one_block(self):
        self.assertEqual(
            run(*ONE, *[("best_with_price", 0, price) for price in range(4)])[2:],
            [[0, 0], [6, 1], [10, 2], [0, 3]],
        )

    def test_two_blocks_by_hand(self):
        calls = planner_calls(3, 1, TWO)
        for block, price, told in (
            (0, 0, [0, 0, 0]),
            (0, 1, [10, 1, 1]),
            (0, 2, [10, 2, 2]),
            (0, 3, [15, 3, 3]),
            (1, 0, [5, 1, 0]),
            (1, 1, [10, 1, 1]),
            (1, 2, [10, 2, 2]),
            (1, 3, [15, 3, 3]),
        ):
            with self.subTest(block=block, price=price):
                self.assertEqual(last(*calls, ("best_with_price", block, price)), told)

    def test_of_several_the_lexicographically_smallest(self):
        # nobody comes: every ordered list earns 0
        nobody = planner_calls(3, 1, [(0, [9] * 4), (9, [0] * 4), (0, [0] * 4)])
        for block, price, told in (
            (0, 2, [0, 2, 1, 0]),
            (1, 2, [0, 2, 2, 1]),
            (2, 2, [0, 2, 2, 2]),
            (0, 0, [0, 0, 0, 0]),
            (1, 0, [0, 0, 0, 0]),
            (2, 3, [0, 3, 3, 3]),
        ):
            with self.subTest(block=block, price=price):
                self.assertEqual(last(*nobody, ("best_with_price", block, price)), told)

    def test_errors_in_their_order(self):
        calls = planner_calls(3, 1, TWO)
        for block, price, told in (
            (0, 3, [15, 3, 3]), (0, 4, [-22]), (1, 4, [-22]), (1, 8, [-22]), (0, HUGE, [-22]), (2, 0, [-2]),
            (2, 3, [-2]), (2, 4, [-2]), (5, 8, [-2]), (HUGE, HUGE, [-2]),
        ):
            with self.subTest(block=block, price=price):
                self.assertEqual(last(*calls, ("best_with_price", block, price)), told)

    def test_without_blocks(self):
        for price in (0, 1, 2, HUGE):
            self.assertEqual(last(("create", 1, 0), ("best_with_price", 0, price)), [-2])

    def test_as_by_trying_every_list(self):
        for max_price, max_step, blocks in planners_with_steps(60):
            lists = slow_ordered(len(blocks), max_price, max_step)
            pairs = [(block, price) for block in range(len(blocks)) for price in range(max_price + 1)]
            calls = planner_calls(max_price, max_step, blocks)
            told = run(*calls, *[("best_with_price", block, price) for block, price in pairs])[len(calls):]
            for (block, price), choice in zip(pairs, told, strict=True):
                with self.subTest(max_step=max_step, blocks=blocks, block=block, price=price):
                    fitting = [prices for prices in lists if prices[block] == price]
                    self.assertEqual(choice, slow_first_best(blocks, fitting))

    def test_at_the_best_prices_they_are_the_answer(self):
        for max_price, max_step, blocks in planners_with_steps(30):
            calls = planner_calls(max_price, max_step, blocks)
            best = last(*calls, ("best_prices",))
            for block in range(len(blocks)):
                self.assertEqual(last(*calls, ("best_with_price", block, best[1 + block])), best)


class BestWithAttendance(unittest.TestCase):
    def test_without_blocks(self):
        self.assertEqual(
            run(("create", 7, 0), *[("best_with_attendance", people) for people in (0, 1, HUGE)])[1:],
            [[0], [-33], [-33]],
        )

    def test_one_block(self):
        # attendances 6, 6, 5, 0 and revenues 0, 6, 10, 0
        self.assertEqual(
            run(*ONE, *[("best_with_attendance", people) for people in (0, 1, 5, 6, 7, HUGE)])[2:],
            [[10, 2], [10, 2], [10, 2], [6, 1], [-33], [-33]],
        )

    def test_of_all_blocks_together(self):
        calls = planner_calls(3, 1, TWO)
        self.assertEqual(
            run(*calls, *[("best_with_attendance", people) for people in (0, 5, 6, 10, 11)])[3:],
            [[15, 3, 3], [15, 3, 3], [10, 1, 1], [10, 1, 1], [-33]],
        )

    def test_a_list_that_is_not_ordered_does_not_count(self):
        # 0 and 3 would have 10 people and earn 15; it rises.
        blocks = [(5, [5, 0, 0, 0]), (5, [5, 5, 5, 5])]
        calls = planner_calls(3, 7, blocks)
        self.assertEqual(
            run(*calls, *[("best_with_attendance", people) for people in (5, 6, 10, 11)])[3:],
            [[15, 3, 3], [0, 0, 0], [0, 0, 0], [-33]],
        )

    def test_of_several_the_lexicographically_smallest(self):
        nobody = planner_calls(3, 1, [(0, [9] * 4)] * 5)
        self.assertEqual(last(*nobody, ("best_with_attendance", 0)), [0] * 6)
        self.assertEqual(last(*nobody, ("best_with_attendance", 1)), [-33])
        # Both at 1 have 4 people, 2 and 1 have 3, 2 and 2 have 2; each earns 4 in all.
        equal = planner_calls(2, 1, [(9, [2, 2, 1])] * 2)
        self.assertEqual(last(*equal, ("best_with_attendance", 2)), [4, 1, 1])
        # 1, 0 and 1, 1 earn 2, with 11 and 2 people; 0, 0 has 11 too.
        blocks = planner_calls(2, 1, [(9, [2, 2, 1]), (9, [9, 0, 0])])
        self.assertEqual(last(*blocks, ("best_with_attendance", 0)), [2, 1, 0])
        self.assertEqual(last(*blocks, ("best_with_attendance", 11)), [2, 1, 0])

    def test_no_limit_gives_the_best_prices(self):
        for max_price, max_step, blocks in planners_with_steps(60):
            told = run(*planner_calls(max_price, max_step, blocks), ("best_prices",), ("best_with_attendance", 0))
            self.assertEqual(told[-1], told[-2])

    def test_as_by_trying_every_list(self):
        for max_price, max_step, blocks in planners_with_steps(60):
            lists = slow_ordered(len(blocks), max_price, max_step)
            people = [slow_attendance(blocks, prices) for prices in lists]
            reached = sorted(set(people))
            middle = reached[::1 + len(reached) // 12]
            limits = sorted({0, *middle, *[limit + 1 for limit in middle], reached[-1], reached[-1] + 1, HUGE})
            calls = planner_calls(max_price, max_step, blocks)
            told = run(*calls, *[("best_with_attendance", limit) for limit in limits])[len(calls):]
            for limit, choice in zip(limits, told, strict=True):
                with self.subTest(max_step=max_step, blocks=blocks, limit=limit):
                    fitting = [prices for prices, count in zip(lists, people) if count >= limit]
                    self.assertEqual(choice, slow_first_best(blocks, fitting) or [-33])
            self.assertEqual(told[-1], [-33])


class BestSinglePrice(unittest.TestCase):
    def test_price_then_revenue(self):
        self.assertEqual(last(*ONE, ("best_single_price", 0)), [2, 10])

    def test_of_that_block_alone(self):
        calls = planner_calls(3, 0, TWO)
        self.assertEqual(run(*calls, ("best_single_price", 0), ("best_single_price", 1))[3:], [[1, 5], [3, 15]])

    def test_of_several_the_lowest(self):
        # 6 at the prices 1, 2 and 3; 6 at the prices 2 and 3; 0 at every price, by seats and by demand
        blocks = [(9, [6, 6, 3, 2]), (9, [9, 5, 3, 2]), (0, [9, 9, 9, 9]), (9, [9, 0, 0, 0])]
        calls = planner_calls(3, 0, blocks)
        self.assertEqual(
            run(*calls, *[("best_single_price", block) for block in range(4)])[5:],
            [[1, 6], [2, 6], [0, 0], [0, 0]],
        )

    def test_no_such_block(self):
        self.assertEqual(last(("create", 1, 0), ("best_single_price", 0)), [-2])
        for block in (1, 5, HUGE):
            self.assertEqual(last(*ONE, ("best_single_price", block)), [-2])

    def test_as_by_trying_every_price(self):
        for max_price, max_step, blocks in some_planners(60):
            for block in range(len(blocks)):
                total, price = slow_singles([blocks[block]])
                calls = planner_calls(max_price, max_step, blocks)
                self.assertEqual(last(*calls, ("best_single_price", block)), [price, total])


class RevenueIfStep(unittest.TestCase):
    def test_without_blocks(self):
        self.assertEqual(
            run(("create", 7, 0), *[("revenue_if_step", step) for step in (0, 7, 8, HUGE)])[1:],
            [[0], [0], [-22], [-22]],
        )

    def test_two_blocks_by_hand(self):
        blocks = [(9, [9, 9, 9, 9]), (9, [9, 9, 0, 0])]
        for max_step in (0, 1, 7):
            calls = planner_calls(3, max_step, blocks)
            self.assertEqual(
                run(*calls, *[("revenue_if_step", step) for step in range(9)])[3:],
                [[27], [27], [36], [36], [36], [36], [36], [36], [-22]],
            )

    def test_as_by_trying_every_list(self):
        for max_price, max_step, blocks in some_planners(40):
            calls = planner_calls(max_price, max_step, blocks)
            for step in (0, 1, 3, 7):
                with self.subTest(max_step=max_step, step=step, blocks=blocks):
                    told = last(*calls, ("revenue_if_step", step))
                    self.assertEqual(told, slow_best(blocks, max_price, step)[:1])

    def test_as_after_set_max_step(self):
        for max_price, max_step, blocks in some_planners(60):
            calls = planner_calls(max_price, max_step, blocks)
            for step in range(8):
                told = last(*calls, ("revenue_if_step", step))
                self.assertEqual(told, last(*calls, ("set_max_step", step), ("best_prices",))[:1])

    def test_leaves_max_step(self):
        calls = planner_calls(3, 1, [(9, [9, 9, 9, 9]), (9, [9, 9, 0, 0])])
        self.assertEqual(
            run(*calls, ("revenue_if_step", 7), ("get_state",), ("best_prices",), ("set_max_step", 0))[3:],
            [[36], [2, 3, 1], [27, 2, 1], [1]],
        )


class RevenueWithout(unittest.TestCase):
    BLOCKS = [(9, [9, 9, 0, 0]), (9, [9, 9, 9, 9]), (8, [9, 9, 9, 0]), (9, [9, 9, 0, 0])]

    def test_the_only_block(self):
        self.assertEqual(last(*ONE, ("revenue_without", 0)), [0])

    def test_first_middle_last(self):
        # 3, 2, 1; 1, 1, 1; 1, 1, 1; 3, 3, 2
        calls = planner_calls(3, 1, self.BLOCKS)
        self.assertEqual(
            run(*calls, *[("revenue_without", block) for block in range(4)])[5:],
            [[27 + 16 + 9], [9 + 8 + 9], [9 + 9 + 9], [0 + 27 + 16]],
        )

    def test_no_such_block(self):
        self.assertEqual(last(("create", 1, 0), ("revenue_without", 0)), [-2])
        calls = planner_calls(3, 1, self.BLOCKS)
        for block in (4, 5, HUGE):
            self.assertEqual(last(*calls, ("revenue_without", block)), [-2])

    def test_as_after_remove_block(self):
        for max_price, max_step, blocks in planners_with_steps(60):
            calls = planner_calls(max_price, max_step, blocks)
            for block in range(len(blocks)):
                with self.subTest(max_step=max_step, blocks=blocks, block=block):
                    told = last(*calls, ("revenue_without", block))
                    self.assertEqual(told, last(*calls, ("remove_block", block), ("best_prices",))[:1])
                    self.assertEqual(told, slow_best(blocks[:block] + blocks[block + 1:], max_price, max_step)[:1])

    def test_leaves_the_blocks(self):
        calls = planner_calls(3, 1, self.BLOCKS)
        told = [("get_state",), *[("get_block", block) for block in range(5)], ("best_prices",)]
        for block in range(5):
            self.assertEqual(run(*calls, ("revenue_without", block), *told)[6:], run(*calls, *told)[5:])
