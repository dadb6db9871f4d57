"""Writes calls as the program reads them, and takes its answers apart again."""

import random
from itertools import product

from blockprices.planner import answers

NUMBERS = {
    "create": 0,
    "add_block": 1,
    "remove_block": 2,
    "set_seats": 3,
    "set_demand": 4,
    "set_max_step": 5,
    "swap_blocks": 6,
    "attendance": 7,
    "revenue": 8,
    "best_prices": 9,
    "unconstrained_prices": 10,
    "ordering_loss": 11,
    "total_revenue": 12,
    "is_ordered": 13,
    "total_attendance": 14,
    "count_ordered": 15,
    "best_with_price": 16,
    "best_with_attendance": 17,
    "best_single_price": 18,
    "revenue_if_step": 19,
    "revenue_without": 20,
    "get_block": 21,
    "get_state": 22,
}

HUGE = 4294967295


def written(calls):
    """One list of whole numbers for calls such as ("add_block", 10, [3, 2])."""
    numbers = []
    for call in calls:
        numbers.append(NUMBERS[call[0]])
        for argument in call[1:]:
            if isinstance(argument, list):
                numbers.append(len(argument))
                numbers.extend(argument)
            else:
                numbers.append(argument)
    return numbers


def split(results):
    """The answers, one list for each call."""
    lists = []
    at = 0
    while at < len(results):
        end = at + 1 + results[at]
        if end > len(results):
            raise AssertionError("an answer is shorter than its count tells")
        lists.append(results[at + 1:end])
        at = end
    return lists


def run(*calls):
    lists = split(answers(written(calls)))
    if len(lists) != len(calls):
        raise AssertionError("there are not as many answers as calls")
    return lists


def last(*calls):
    return run(*calls)[-1]


def planner_calls(max_price, max_step, blocks):
    return [("create", max_price, max_step), *[("add_block", seats, demand) for seats, demand in blocks]]


def some_planners(count):
    """Planners of all sizes; narrow ranges of demand make ties frequent."""
    source = random.Random(20)
    for number in range(count):
        max_price = source.randint(1, 7)
        widest = source.choice((1, 2, 5, 20, 999))
        blocks = []
        for block in range(number % 6):
            demand = sorted((source.randint(0, widest) for price in range(max_price + 1)), reverse=True)
            blocks.append((source.randint(0, widest), demand))
        yield max_price, source.randint(0, 7), blocks


def snapshot(count):
    """Calls that tell a planner of so many blocks and change nothing in it."""
    return [("get_state",), *[("get_block", block) for block in range(count + 1)], ("best_prices",)]


def probe(max_price, seats):
    """Calls whose answers tell all that a planner holds, by get_block and get_state and also by what comes of it:
    for each block the seats are told by setting them to what they are said to be, and the demand, unhidden by the
    seats, by each attendance at 999 seats."""
    calls = [*snapshot(len(seats)), ("unconstrained_prices",), ("ordering_loss",)]
    for block in range(len(seats)):
        calls.append(("set_seats", block, 999))
        for price in range(max_price + 1):
            calls.append(("attendance", block, price))
        calls.append(("set_seats", block, seats[block]))
    calls.append(("attendance", len(seats), 0))
    calls.append(("attendance", 0, max_price + 1))
    calls.append(("set_max_step", 0))
    return calls


def slow_tables(blocks):
    return [
        [price * min(seats, demand[price]) for price in range(len(demand))]
        for seats, demand in blocks
    ]


def slow_revenue(blocks, prices):
    return sum(table[price] for table, price in zip(slow_tables(blocks), prices))


def slow_attendance(blocks, prices):
    return sum(min(seats, demand[price]) for (seats, demand), price in zip(blocks, prices))


def slow_is_ordered(prices, max_step):
    return all(b <= a <= b + max_step for a, b in zip(prices, prices[1:]))


def slow_ordered(count, max_price, max_step):
    """The ordered price lists, found by trying every price list in lexicographic order."""
    return [
        prices
        for prices in product(range(max_price + 1), repeat=count)
        if slow_is_ordered(prices, max_step)
    ]


def slow_first_best(blocks, lists):
    """Of lists in lexicographic order, the first that earns the most, behind what it earns."""
    tables = slow_tables(blocks)
    best = None
    for prices in lists:
        total = sum(table[price] for table, price in zip(tables, prices))
        if best is None or total > best[0]:
            best = [total, *prices]
    return best


def slow_best(blocks, max_price, max_step):
    return slow_first_best(blocks, slow_ordered(len(blocks), max_price, max_step))


def slow_singles(blocks):
    total = 0
    prices = []
    for table in slow_tables(blocks):
        best = max(table)
        total += best
        prices.append([price for price in range(len(table)) if table[price] == best][0])
    return [total, *prices]
