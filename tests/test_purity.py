"""Queries change nothing, and errors leave the planner as it was."""

import unittest

from blockprices.planner import answers
from tests.helper import HUGE, NUMBERS, planner_calls, probe, run, snapshot, some_planners, written

# What is asked of planners with any number of blocks and any max_price: some of it is refused by each of them.
QUERIES = [
    ("attendance", 0, 1),
    ("attendance", 9, 1),
    ("attendance", 0, 9),
    ("revenue", 0, 1),
    ("revenue", 9, 1),
    ("revenue", 0, 9),
    ("best_prices",),
    ("unconstrained_prices",),
    ("ordering_loss",),
    *[(name, [1] * length) for name in ("total_revenue", "is_ordered", "total_attendance") for length in range(7)],
    ("total_revenue", [8]),
    ("is_ordered", [0, 1]),
    ("total_attendance", [8, 0]),
    ("count_ordered",),
    ("best_with_price", 0, 1),
    ("best_with_price", 9, 1),
    ("best_with_price", 0, 9),
    ("best_with_attendance", 0),
    ("best_with_attendance", 3),
    ("best_with_attendance", HUGE),
    ("best_single_price", 0),
    ("best_single_price", 9),
    ("revenue_if_step", 0),
    ("revenue_if_step", 7),
    ("revenue_if_step", 8),
    ("revenue_without", 0),
    ("revenue_without", 1),
    ("revenue_without", 9),
    ("get_block", 0),
    ("get_block", 9),
    ("get_state",),
]

# Refused by every planner, whatever it holds.
REFUSED = [
    (("create", 0, 1), -22),
    (("create", 1, 8), -22),
    (("add_block", 1000, [1, 1]), -22),
    (("add_block", 1, []), -22),
    (("remove_block", 5), -2),
    (("set_seats", 5, 1), -2),
    (("set_demand", 5, [1, 1]), -2),
    (("set_max_step", 8), -22),
    (("swap_blocks", 0, 5), -2),
    (("swap_blocks", 5, 0), -2),
    (("attendance", 5, 8), -2),
    (("revenue", 5, 8), -2),
    (("total_revenue", [0] * 6), -22),
    (("is_ordered", [8] * 5), -22),
    (("total_attendance", [65535] * 12), -22),
    (("best_with_price", 5, 8), -2),
    (("best_with_attendance", 4996), -33),
    (("best_single_price", 5), -2),
    (("revenue_if_step", 8), -22),
    (("revenue_without", 5), -2),
    (("get_block", 5), -2),
]


class QueriesArePure(unittest.TestCase):
    def test_every_query_is_tried(self):
        self.assertEqual({NUMBERS[query[0]] for query in QUERIES}, set(range(7, 23)))

    def test_asked_again_they_answer_the_same(self):
        for max_price, max_step, blocks in some_planners(30):
            told = run(*planner_calls(max_price, max_step, blocks), *QUERIES * 2)[1 + len(blocks):]
            self.assertEqual(told[:len(QUERIES)], told[len(QUERIES):])

    def test_they_change_nothing(self):
        for max_price, max_step, blocks in some_planners(18):
            calls = planner_calls(max_price, max_step, blocks)
            asked = probe(max_price, [seats for seats, demand in blocks])
            without = run(*calls, *asked)[len(calls):]
            for query in QUERIES:
                with self.subTest(query=query, blocks=blocks):
                    self.assertEqual(run(*calls, query, *asked)[len(calls) + 1:], without)

    def test_the_planner_is_told_alike_ahead_and_behind(self):
        for max_price, max_step, blocks in some_planners(18):
            told = snapshot(len(blocks))
            for query in QUERIES:
                with self.subTest(query=query, blocks=blocks):
                    every = run(*planner_calls(max_price, max_step, blocks), *told, query, *told)[1 + len(blocks):]
                    self.assertEqual(every[:len(told)], every[len(told) + 1:])


class ErrorsChangeNothing(unittest.TestCase):
    def test_refused_and_as_before(self):
        for max_price, max_step, blocks in some_planners(18):
            calls = planner_calls(max_price, max_step, blocks)
            asked = probe(max_price, [seats for seats, demand in blocks])
            without = run(*calls, *asked)[len(calls):]
            for call, code in REFUSED:
                with self.subTest(call=call, blocks=blocks):
                    self.assertEqual(run(*calls, call, *asked)[len(calls):], [[code], *without])


class NothingIsKept(unittest.TestCase):
    def test_what_is_handed_in_stays_equal(self):
        for max_price, max_step, blocks in some_planners(18):
            calls = written([*planner_calls(max_price, max_step, blocks), *QUERIES, *[call for call, code in REFUSED]])
            before = list(calls)
            answers(calls)
            self.assertEqual(calls, before)

    def test_a_second_time_starts_without_a_planner(self):
        for query in QUERIES:
            with self.subTest(query=query):
                run(*planner_calls(7, 7, [(9, [9] * 8)] * 5), query)
                self.assertEqual(run(query), [[-11]])

    def test_without_a_planner_all_are_refused_alike(self):
        for call, code in REFUSED:
            with self.subTest(call=call):
                self.assertEqual(run(call, ("get_state",)), [[-22 if call[0] == "create" else -11], [-11]])
