"""The queries that tell what a planner holds: 21 and 22."""

import unittest

from tests.helper import HUGE, last, planner_calls, run, some_planners

BLOCKS = [(10, [9, 8, 7]), (999, [999, 0, 0]), (0, [0, 0, 0])]


class GetBlock(unittest.TestCase):
    def test_seats_then_demand(self):
        calls = planner_calls(2, 1, BLOCKS)
        self.assertEqual(
            run(*calls, *[("get_block", block) for block in range(3)])[4:],
            [[10, 9, 8, 7], [999, 999, 0, 0], [0, 0, 0, 0]],
        )

    def test_demand_is_told_whole_where_the_seats_are_fewer(self):
        self.assertEqual(last(*planner_calls(1, 0, [(2, [9, 8])]), ("get_block", 0)), [2, 9, 8])

    def test_a_demand_for_each_price(self):
        for max_price in range(1, 8):
            demand = list(range(20 + max_price, 19, -1))
            self.assertEqual(last(*planner_calls(max_price, 0, [(5, demand)]), ("get_block", 0)), [5, *demand])

    def test_no_such_block(self):
        for block in (0, 1, HUGE):
            self.assertEqual(last(("create", 1, 0), ("get_block", block)), [-2])
        for block in (3, 5, HUGE):
            self.assertEqual(last(*planner_calls(2, 1, BLOCKS), ("get_block", block)), [-2])

    def test_follows_every_change(self):
        self.assertEqual(
            run(
                *planner_calls(2, 1, BLOCKS),
                ("set_seats", 0, 11),
                ("get_block", 0),
                ("set_demand", 0, [6, 5, 5]),
                ("get_block", 0),
                ("swap_blocks", 0, 1),
                ("get_block", 0),
                ("get_block", 1),
                ("remove_block", 0),
                ("get_block", 0),
                ("get_block", 1),
                ("get_block", 2),
            )[4:],
            [
                [10], [11, 9, 8, 7], [0], [11, 6, 5, 5], [3], [999, 999, 0, 0], [11, 6, 5, 5], [2], [11, 6, 5, 5],
                [0, 0, 0, 0], [-2],
            ],
        )

    def test_equal_blocks_are_held_each_alone(self):
        calls = planner_calls(1, 0, [(5, [4, 3])] * 3)
        self.assertEqual(
            run(
                *calls,
                ("set_seats", 1, 6),
                ("set_demand", 2, [2, 1]),
                *[("get_block", block) for block in range(3)],
            )[6:],
            [[5, 4, 3], [6, 4, 3], [5, 2, 1]],
        )


class GetState(unittest.TestCase):
    def test_without_blocks(self):
        for max_price in range(1, 8):
            for max_step in range(8):
                self.assertEqual(run(("create", max_price, max_step), ("get_state",)), [[0], [0, max_price, max_step]])

    def test_counts_the_blocks(self):
        calls = [("create", 2, 5)]
        for count in range(1, 6):
            calls.extend([("add_block", 1, [1, 1, 1]), ("get_state",)])
        self.assertEqual(run(*calls)[2::2], [[count, 2, 5] for count in range(1, 6)])
        self.assertEqual(run(*calls, ("add_block", 1, [1, 1, 1]), ("get_state",))[-2:], [[-28], [5, 2, 5]])
        self.assertEqual(run(*calls, ("remove_block", 2), ("get_state",))[-2:], [[4], [4, 2, 5]])

    def test_follows_the_step(self):
        self.assertEqual(
            run(("create", 1, 7), ("set_max_step", 0), ("get_state",), ("set_max_step", 8), ("get_state",)),
            [[0], [7], [0, 1, 0], [-22], [0, 1, 0]],
        )

    def test_create_again(self):
        self.assertEqual(
            run(
                *planner_calls(2, 1, BLOCKS),
                ("create", 8, 3),
                ("get_state",),
                ("create", 4, 3),
                ("get_state",),
                ("get_block", 0),
            )[4:],
            [[-22], [3, 2, 1], [0], [0, 4, 3], [-2]],
        )

    def test_of_many_planners(self):
        for max_price, max_step, blocks in some_planners(30):
            self.assertEqual(
                last(*planner_calls(max_price, max_step, blocks), ("get_state",)),
                [len(blocks), max_price, max_step],
            )
