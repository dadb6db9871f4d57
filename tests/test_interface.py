"""How calls are handed in and answers given back."""

import ast
import contextlib
import io
import pathlib
import unittest

import blockprices
from blockprices.planner import answers
from tests.helper import HUGE, NUMBERS, run, written

# None of these numbers is the number of a call: one that is read as such fails.
WRONG_ROW = [60000, 50000, 40000]

ARGUMENTS = {
    "create": (HUGE, HUGE),
    "add_block": (HUGE, WRONG_ROW),
    "remove_block": (HUGE,),
    "set_seats": (HUGE, HUGE),
    "set_demand": (HUGE, WRONG_ROW),
    "set_max_step": (HUGE,),
    "swap_blocks": (HUGE, HUGE),
    "attendance": (HUGE, HUGE),
    "revenue": (HUGE, HUGE),
    "total_revenue": (WRONG_ROW,),
    "is_ordered": (WRONG_ROW,),
    "total_attendance": (WRONG_ROW,),
    "best_with_price": (HUGE, HUGE),
    "best_with_attendance": (HUGE,),
    "best_single_price": (HUGE,),
    "revenue_if_step": (HUGE,),
    "revenue_without": (HUGE,),
    "get_block": (HUGE,),
}

EVERY_OPERATION = [
    ("create", 3, 1),
    ("add_block", 10, [10, 8, 5, 1]),
    ("add_block", 11, [10, 9, 2, 0]),
    ("add_block", 12, [10, 9, 9]),
    ("set_seats", 0, 9),
    ("set_demand", 1, [9, 8, 7, 6]),
    ("set_max_step", 2),
    ("swap_blocks", 0, 1),
    ("attendance", 0, 1),
    ("revenue", 1, 2),
    ("best_prices",),
    ("unconstrained_prices",),
    ("ordering_loss",),
    ("total_revenue", [1, 2]),
    ("is_ordered", [1, 2]),
    ("total_attendance", [1, 2]),
    ("count_ordered",),
    ("best_with_price", 1, 2),
    ("best_with_attendance", 12),
    ("best_single_price", 1),
    ("revenue_if_step", 0),
    ("revenue_without", 1),
    ("get_block", 1),
    ("get_state",),
    ("remove_block", 0),
    ("best_prices",),
]


class Form(unittest.TestCase):
    def test_numbers_as_they_stand(self):
        # create(3, 1), add_block(10, [10, 8, 5, 1]), best_prices(), attendance(1, 0)
        calls = [0, 3, 1, 1, 10, 4, 10, 8, 5, 1, 9, 7, 1, 0]
        self.assertEqual(answers(calls), [1, 0, 1, 0, 2, 10, 2, 1, -2])

    def test_without_blocks_the_total_revenue_alone(self):
        self.assertEqual(answers([0, 1, 0, 9, 10, 11, 17, 0]), [1, 0, 1, 0, 1, 0, 1, 0, 1, 0])

    def test_every_operation_is_tried(self):
        self.assertEqual({call[0] for call in EVERY_OPERATION}, set(NUMBERS))

    def test_every_operation_as_numbers(self):
        self.assertEqual(
            answers(written(EVERY_OPERATION)),
            [
                *(1, 0), *(1, 0), *(1, 1), *(1, -22), *(1, 10), *(1, 0), *(1, 1), *(1, 2),
                # The blocks are (11, [9, 8, 7, 6]) and (9, [10, 8, 5, 1]), the step is 2.
                *(1, 8), *(1, 10), *(3, 28, 3, 2), *(3, 28, 3, 2), *(1, 0),
                *(1, 18), *(1, 0), *(1, 13), *(1, 9), *(3, 28, 3, 2), *(3, 26, 3, 1), *(2, 2, 10), *(1, 24), *(1, 18),
                *(5, 9, 10, 8, 5, 1), *(3, 2, 3, 2),
                *(1, 1), *(2, 10, 2),
            ],
        )

    def test_numbers_of_the_calls_with_rows(self):
        # create(2, 1), add_block(5, [4, 3, 2]), total_revenue([2]), total_revenue([]), is_ordered([1]),
        # total_attendance([1]), total_attendance([1, 1]), get_block(0)
        calls = [0, 2, 1, 1, 5, 3, 4, 3, 2, 12, 1, 2, 12, 0, 13, 1, 1, 14, 1, 1, 14, 2, 1, 1, 21, 0]
        self.assertEqual(answers(calls), [1, 0, 1, 0, 1, 4, 1, -22, 1, 1, 1, 3, 1, -22, 4, 5, 4, 3, 2])

    def test_answers_are_plain_whole_numbers(self):
        results = answers(written(EVERY_OPERATION))
        self.assertIs(type(results), list)
        self.assertEqual({type(number) for number in results}, {int})

    def test_every_call_is_read_to_its_end(self):
        for name in NUMBERS:
            with self.subTest(name=name):
                call = (name, *ARGUMENTS.get(name, ()))
                refused = [-22] if name == "create" else [-11]
                self.assertEqual(run(call, ("best_prices",), call), [refused, [-11], refused])

    def test_rows_of_every_length_are_read_to_their_end(self):
        for length in range(13):
            with self.subTest(length=length):
                demand = [length] * length
                self.assertEqual(
                    run(
                        ("add_block", 1, demand),
                        ("create", 7, 0),
                        ("add_block", 1, demand),
                        ("add_block", 1, [9] * 8),
                        ("set_demand", 0, demand),
                        ("unconstrained_prices",),
                    ),
                    [
                        [-11],
                        [0],
                        [0] if length == 8 else [-22],
                        [1] if length == 8 else [0],
                        [0] if length == 8 else [-22],
                        [14, 7, 7] if length == 8 else [7, 7],
                    ],
                )

    def test_256_calls(self):
        calls = [("create", 7, 7)]
        calls.extend([("add_block", 999, [999] * 8)] * 5)
        calls.extend([("best_prices",)] * 250)
        self.assertEqual(run(*calls)[-1], [34965, 7, 7, 7, 7, 7])

    def test_256_calls_that_look_at_every_list(self):
        calls = [("create", 7, 7)]
        calls.extend([("add_block", 999, [999] * 8)] * 5)
        calls.extend([("count_ordered",), ("best_with_price", 4, 0), ("best_with_attendance", 4995)] * 83)
        told = run(*calls, ("get_state",))
        self.assertEqual(len(told), 256)
        self.assertEqual(told[-4:], [[792], [27972, 7, 7, 7, 7, 0], [34965, 7, 7, 7, 7, 7], [5, 7, 7]])

    def test_a_row_of_prices_of_every_length_is_read_to_its_end(self):
        for length in range(13):
            for name in ("total_revenue", "is_ordered", "total_attendance"):
                with self.subTest(name=name, length=length):
                    # Read as a call, none of these prices has a number.
                    told = run(("create", 7, 0), (name, [60000] * length), ("get_state",))
                    self.assertEqual(told[1] == [-22], length > 0)
                    self.assertEqual(told[2], [0, 7, 0])

    def test_widest_arguments_are_refused_as_told(self):
        wide = [65535] * 12
        self.assertEqual(
            run(
                ("create", HUGE, HUGE),
                ("create", 2, 2),
                ("add_block", 3, [3, 2, 1]),
                ("create", HUGE, HUGE),
                ("add_block", HUGE, wide),
                ("remove_block", HUGE),
                ("set_seats", HUGE, HUGE),
                ("set_seats", 0, HUGE),
                ("set_demand", HUGE, wide),
                ("set_demand", 0, wide),
                ("set_max_step", HUGE),
                ("swap_blocks", HUGE, HUGE),
                ("attendance", HUGE, HUGE),
                ("attendance", 0, HUGE),
                ("revenue", HUGE, HUGE),
                ("revenue", 0, HUGE),
                ("total_revenue", wide),
                ("is_ordered", wide),
                ("total_attendance", wide),
                ("best_with_price", HUGE, HUGE),
                ("best_with_price", 0, HUGE),
                ("best_with_attendance", HUGE),
                ("best_single_price", HUGE),
                ("revenue_if_step", HUGE),
                ("revenue_without", HUGE),
                ("get_block", HUGE),
                ("best_prices",),
            ),
            [
                [-22], [0], [0], [-22], [-22], [-2], [-2], [-22], [-2], [-22], [-22], [-2], [-2], [-22], [-2], [-22],
                [-22], [-22], [-22], [-2], [-22], [-33], [-2], [-22], [-2], [-2],
                [2, 1],
            ],
        )


class NothingIsKept(unittest.TestCase):
    def test_what_is_handed_in_stays_equal(self):
        calls = written(EVERY_OPERATION)
        before = list(calls)
        answers(calls)
        self.assertEqual(calls, before)

    def test_a_second_time_starts_without_a_planner(self):
        self.assertEqual(run(("create", 2, 1), ("add_block", 1, [1, 1, 1]))[0], [0])
        self.assertEqual(run(("best_prices",), ("add_block", 1, [1, 1, 1])), [[-11], [-11]])

    def test_the_same_calls_have_the_same_answers(self):
        calls = written(EVERY_OPERATION)
        first = answers(calls)
        kept = list(first)
        self.assertEqual(answers(calls), first)
        self.assertEqual(first, kept)


class NothingElseIsDone(unittest.TestCase):
    def test_nothing_is_printed(self):
        out = io.StringIO()
        err = io.StringIO()
        with contextlib.redirect_stdout(out), contextlib.redirect_stderr(err):
            answers(written(EVERY_OPERATION))
        self.assertEqual((out.getvalue(), err.getvalue()), ("", ""))

    def test_nothing_but_the_package_is_imported(self):
        for path in sorted(pathlib.Path(blockprices.__file__).parent.glob("*.py")):
            tree = ast.parse(path.read_text(encoding="utf-8"))
            for node in ast.walk(tree):
                self.assertNotIsInstance(node, ast.Import, path.name)
                if isinstance(node, ast.ImportFrom):
                    self.assertTrue(node.module.startswith("blockprices."), path.name)
                if isinstance(node, ast.Name):
                    self.assertNotIn(node.id, ("print", "open", "input", "__import__"), path.name)
