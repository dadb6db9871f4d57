"""create and the operations that change a planner: 0 to 6."""

import unittest

from tests.helper import HUGE, last, probe, run

WITHOUT_PLANNER = [
    ("add_block", 1000, []),
    ("remove_block", 0),
    ("set_seats", 0, 1000),
    ("set_demand", 0, []),
    ("set_max_step", 8),
    ("swap_blocks", 0, 0),
    ("attendance", 0, 8),
    ("revenue", 0, 8),
    ("best_prices",),
    ("unconstrained_prices",),
    ("ordering_loss",),
    ("total_revenue", [8]),
    ("is_ordered", [8]),
    ("total_attendance", [8]),
    ("count_ordered",),
    ("best_with_price", 0, 8),
    ("best_with_attendance", HUGE),
    ("best_single_price", 0),
    ("revenue_if_step", 8),
    ("revenue_without", 0),
    ("get_block", 0),
    ("get_state",),
]

ONE = [("create", 2, 1), ("add_block", 10, [9, 8, 7])]

FIVE = [("create", 1, 7)] + [("add_block", 100 + n, [50 + n, 40 + n]) for n in range(5)]


def block_revenues(count):
    return [("revenue", block, 1) for block in range(count)]


class NoPlanner(unittest.TestCase):
    def test_minus_11_ahead_of_every_other_error(self):
        for call in WITHOUT_PLANNER:
            with self.subTest(call=call):
                self.assertEqual(run(call), [[-11]])

    def test_a_refused_create_makes_none(self):
        for call in WITHOUT_PLANNER:
            with self.subTest(call=call):
                self.assertEqual(run(("create", 8, 0), call), [[-22], [-11]])


class Create(unittest.TestCase):
    def test_range_of_max_price(self):
        for max_price, told in ((0, -22), (1, 0), (7, 0), (8, -22), (HUGE, -22)):
            with self.subTest(max_price=max_price):
                self.assertEqual(run(("create", max_price, 0)), [[told]])

    def test_range_of_max_step(self):
        for max_step, told in ((0, 0), (7, 0), (8, -22), (HUGE, -22)):
            with self.subTest(max_step=max_step):
                self.assertEqual(run(("create", 1, max_step)), [[told]])

    def test_both_out_of_range(self):
        self.assertEqual(run(("create", 0, 8)), [[-22]])

    def test_max_step_may_be_greater_than_max_price(self):
        self.assertEqual(run(("create", 1, 7), ("set_max_step", 0)), [[0], [7]])

    def test_settings_are_kept(self):
        for max_price in range(1, 8):
            for max_step in range(8):
                with self.subTest(max_price=max_price, max_step=max_step):
                    self.assertEqual(
                        run(
                            ("create", max_price, max_step),
                            ("add_block", 1, [1] * (max_price + 1)),
                            ("attendance", 0, max_price),
                            ("attendance", 0, max_price + 1),
                            ("set_max_step", max_step),
                        ),
                        [[0], [0], [1], [-22], [max_step]],
                    )

    def test_again_replaces_the_planner(self):
        self.assertEqual(
            run(
                *ONE,
                ("create", 3, 2),
                ("best_prices",),
                ("attendance", 0, 0),
                ("add_block", 10, [9, 8, 7]),
                ("add_block", 10, [9, 8, 7, 6]),
                ("best_prices",),
                ("set_max_step", 0),
            )[2:],
            [[0], [0], [-2], [-22], [0], [18, 3], [2]],
        )

    def test_refused_keeps_the_planner(self):
        for refused in (("create", 0, 5), ("create", 8, 5), ("create", 5, 8)):
            with self.subTest(refused=refused):
                self.assertEqual(run(*ONE, refused)[-1], [-22])
                self.assertEqual(run(*ONE, refused, *probe(2, [10]))[3:], run(*ONE, *probe(2, [10]))[2:])

    def test_refused_then_made_then_refused(self):
        self.assertEqual(
            run(("create", 8, 0), ("create", 1, 0), ("create", 0, 0), ("best_prices",)),
            [[-22], [0], [-22], [0]],
        )


class AddBlock(unittest.TestCase):
    def test_numbers_from_0_on_and_a_sixth(self):
        self.assertEqual(run(*FIVE)[1:], [[0], [1], [2], [3], [4]])
        self.assertEqual(last(*FIVE, ("add_block", 1, [1, 1])), [-28])

    def test_a_sixth_changes_nothing(self):
        seats = [100, 101, 102, 103, 104]
        self.assertEqual(
            run(*FIVE, ("add_block", 1, [1, 1]), *probe(1, seats))[7:],
            run(*FIVE, *probe(1, seats))[6:],
        )

    def test_at_the_end(self):
        self.assertEqual(run(*FIVE, *block_revenues(5))[6:], [[40], [41], [42], [43], [44]])

    def test_wrong_arguments_ahead_of_too_many_blocks(self):
        self.assertEqual(last(*FIVE, ("add_block", 1000, [1, 1])), [-22])
        self.assertEqual(last(*FIVE, ("add_block", 1, [1, 2])), [-22])
        self.assertEqual(last(*FIVE, ("add_block", 1, [1])), [-22])

    def test_after_a_removal_there_is_room_again(self):
        self.assertEqual(
            run(*FIVE, ("remove_block", 0), ("add_block", 1, [1, 1]), ("add_block", 1, [1, 1]))[6:],
            [[4], [4], [-28]],
        )

    def test_range_of_seats(self):
        for seats, told in ((0, 0), (999, 0), (1000, -22), (HUGE, -22)):
            with self.subTest(seats=seats):
                self.assertEqual(last(("create", 1, 0), ("add_block", seats, [1, 1])), [told])

    def test_form_of_demand(self):
        for demand, told in DEMANDS:
            with self.subTest(demand=demand):
                self.assertEqual(last(("create", 2, 0), ("add_block", 1, demand)), [told])

    def test_refused_adds_no_block(self):
        for call in (("add_block", 1000, [1, 1, 1]), ("add_block", 1, [1, 2, 1]), ("add_block", 1, [])):
            with self.subTest(call=call):
                self.assertEqual(
                    run(*ONE, call, *probe(2, [10]))[3:],
                    run(*ONE, *probe(2, [10]))[2:],
                )


# Demands and what is told of them where max_price is 2.
DEMANDS = (
    ([], -22),
    ([1], -22),
    ([1, 1], -22),
    ([1, 1, 1], 0),
    ([1, 1, 1, 1], -22),
    ([1] * 12, -22),
    ([0, 0, 0], 0),
    ([999, 999, 999], 0),
    ([999, 0, 0], 0),
    ([1000, 999, 999], -22),
    ([1000, 1000, 1000], -22),
    ([65535, 2, 1], -22),
    ([3, 2, 1], 0),
    ([3, 3, 1], 0),
    ([3, 1, 1], 0),
    ([3, 1, 2], -22),
    ([1, 2, 1], -22),
    ([1, 1, 2], -22),
    ([1, 2, 3], -22),
    ([1, 2, 1000], -22),
)


class RemoveBlock(unittest.TestCase):
    def test_first_middle_last(self):
        for block, left in ((0, [41, 42, 43, 44]), (2, [40, 41, 43, 44]), (4, [40, 41, 42, 43])):
            with self.subTest(block=block):
                told = run(*FIVE, ("remove_block", block), *block_revenues(5))[6:]
                self.assertEqual(told, [[4], *[[earned] for earned in left], [-2]])

    def test_down_to_none(self):
        self.assertEqual(
            run(*FIVE, *[("remove_block", 0)] * 6, ("best_prices",))[6:],
            [[4], [3], [2], [1], [0], [-2], [0]],
        )

    def test_no_such_block(self):
        for block in (1, 2, HUGE):
            with self.subTest(block=block):
                self.assertEqual(last(*ONE, ("remove_block", block)), [-2])
                self.assertEqual(
                    run(*ONE, ("remove_block", block), *probe(2, [10]))[3:],
                    run(*ONE, *probe(2, [10]))[2:],
                )


class SetSeats(unittest.TestCase):
    def test_previous_seats(self):
        self.assertEqual(
            run(
                *ONE,
                ("add_block", 20, [9, 8, 7]),
                ("set_seats", 0, 5),
                ("attendance", 0, 0),
                ("attendance", 1, 0),
                ("set_seats", 0, 999),
                ("attendance", 0, 0),
                ("set_seats", 0, 0),
                ("attendance", 0, 0),
                ("set_seats", 0, 0),
                ("set_seats", 1, 0),
            )[3:],
            [[10], [5], [9], [5], [9], [999], [0], [0], [20]],
        )

    def test_errors_in_their_order(self):
        for block, seats, told in (
            (0, 1000, -22), (0, HUGE, -22), (1, 1, -2), (1, 1000, -2), (HUGE, HUGE, -2), (0, 999, 10),
        ):
            with self.subTest(block=block, seats=seats):
                self.assertEqual(last(*ONE, ("set_seats", block, seats)), [told])

    def test_refused_changes_nothing(self):
        for block, seats in ((0, 1000), (1, 1)):
            with self.subTest(block=block, seats=seats):
                self.assertEqual(
                    run(*ONE, ("set_seats", block, seats), *probe(2, [10]))[3:],
                    run(*ONE, *probe(2, [10]))[2:],
                )


class SetDemand(unittest.TestCase):
    def test_sets_that_block_alone(self):
        self.assertEqual(
            run(
                *ONE,
                ("add_block", 10, [9, 8, 7]),
                ("set_demand", 0, [6, 5, 5]),
                ("attendance", 0, 0),
                ("attendance", 0, 1),
                ("attendance", 0, 2),
                ("attendance", 1, 0),
                ("attendance", 1, 1),
                ("attendance", 1, 2),
                ("set_seats", 0, 10),
            )[3:],
            [[0], [6], [5], [5], [9], [8], [7], [10]],
        )

    def test_form_of_demand(self):
        for demand, told in DEMANDS:
            with self.subTest(demand=demand):
                self.assertEqual(last(*ONE, ("set_demand", 0, demand)), [told])

    def test_no_such_block_ahead_of_the_form(self):
        for demand, told in DEMANDS:
            with self.subTest(demand=demand):
                self.assertEqual(last(*ONE, ("set_demand", 1, demand)), [-2])

    def test_refused_changes_nothing(self):
        for block, demand in ((0, [6, 5]), (0, [6, 5, 6]), (0, [1000, 5, 5]), (1, [6, 5, 5])):
            with self.subTest(block=block, demand=demand):
                self.assertEqual(
                    run(*ONE, ("set_demand", block, demand), *probe(2, [10]))[3:],
                    run(*ONE, *probe(2, [10]))[2:],
                )


class SetMaxStep(unittest.TestCase):
    def test_previous_step(self):
        self.assertEqual(
            run(*ONE, *[("set_max_step", step) for step in (0, 7, 3, 8, HUGE, 3)])[2:],
            [[1], [0], [7], [-22], [-22], [3]],
        )

    def test_counts_for_the_best_prices(self):
        # The better block sells dear alone, the other one cheap alone.
        blocks = [("create", 3, 0), ("add_block", 9, [9, 9, 9, 9]), ("add_block", 9, [9, 9, 0, 0])]
        self.assertEqual(
            run(
                *blocks,
                ("best_prices",),
                ("set_max_step", 1),
                ("best_prices",),
                ("set_max_step", 2),
                ("best_prices",),
                ("set_max_step", 7),
                ("best_prices",),
            )[3:],
            [[27, 3, 3], [0], [27, 2, 1], [1], [36, 3, 1], [2], [36, 3, 1]],
        )


class SwapBlocks(unittest.TestCase):
    def test_seats_and_demands(self):
        for i, j in ((0, 2), (2, 0)):
            with self.subTest(i=i, j=j):
                self.assertEqual(
                    run(
                        ("create", 1, 0),
                        ("add_block", 3, [9, 8]),
                        ("add_block", 10, [7, 6]),
                        ("add_block", 5, [5, 4]),
                        ("swap_blocks", i, j),
                        *[("set_seats", block, 999) for block in range(3)],
                        *[("attendance", block, price) for block in range(3) for price in range(2)],
                    )[4:],
                    [[3], [5], [10], [3], [5], [4], [7], [6], [9], [8]],
                )

    def test_with_itself(self):
        for block in range(5):
            with self.subTest(block=block):
                self.assertEqual(
                    run(*FIVE, ("swap_blocks", block, block), *block_revenues(5))[6:],
                    [[5], [40], [41], [42], [43], [44]],
                )

    def test_after_a_swap_the_blocks_are_set_each_alone(self):
        self.assertEqual(
            run(*FIVE, ("swap_blocks", 1, 3), ("set_seats", 1, 7), ("swap_blocks", 1, 1), *block_revenues(5))[6:],
            [[5], [103], [5], [40], [7], [42], [41], [44]],
        )

    def test_no_such_block(self):
        for i, j in ((0, 5), (5, 0), (5, 5), (HUGE, 0), (0, HUGE), (5, 6)):
            with self.subTest(i=i, j=j):
                self.assertEqual(
                    run(*FIVE, ("swap_blocks", i, j), *block_revenues(5))[6:],
                    [[-2], [40], [41], [42], [43], [44]],
                )

    def test_without_blocks(self):
        self.assertEqual(last(("create", 1, 0), ("swap_blocks", 0, 0)), [-2])
