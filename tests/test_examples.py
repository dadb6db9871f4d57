"""The examples of the document, whole."""

import unittest

from tests.helper import run


class Examples(unittest.TestCase):
    def test_two_blocks_are_exchanged(self):
        self.assertEqual(
            run(
                ("create", 3, 1),
                ("add_block", 10, [10, 8, 5, 1]),
                ("add_block", 10, [10, 9, 2, 0]),
                ("best_prices",),
                ("ordering_loss",),
                ("swap_blocks", 0, 1),
                ("best_prices",),
                ("unconstrained_prices",),
                ("ordering_loss",),
                ("best_with_attendance", 18),
            ),
            [[0], [0], [1], [19, 2, 1], [0], [2], [17, 1, 1], [19, 1, 2], [2], [9, 1, 0]],
        )

    def test_fewer_seats_than_demand(self):
        self.assertEqual(
            run(
                ("create", 3, 0),
                ("add_block", 4, [9, 9, 9, 9]),
                ("attendance", 0, 3),
                ("revenue", 0, 3),
                ("best_single_price", 0),
                ("count_ordered",),
                ("revenue_if_step", 1),
                ("get_block", 0),
            ),
            [[0], [0], [4], [12], [3, 12], [4], [12], [4, 9, 9, 9, 9]],
        )

    def test_errors(self):
        self.assertEqual(
            run(
                ("create", 0, 1),
                ("best_prices",),
                ("create", 2, 1),
                ("best_prices",),
                ("add_block", 5, [1, 2, 0]),
                ("add_block", 5, [1, 0]),
                ("attendance", 0, 0),
                ("best_with_attendance", 1),
            ),
            [[-22], [-11], [0], [0], [-22], [-22], [-2], [-33]],
        )
