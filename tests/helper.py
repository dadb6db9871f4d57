"""Writes calls as the program reads them, and takes its answers apart again."""

from itertools import product

from blockprices.planner import answers

NUMBERS = {
    "create": 0,
    "add_block": 1,
    "remove_block": 2,
    "set_seats": 3,
    "set_demand": 4,
    "set_max_step": 5,
    "swap_blocks": 6,
    "attendance": 7,
    "revenue": 8,
    "best_prices": 9,
    "unconstrained_prices": 10,
    "ordering_loss": 11,
    "total_revenue": 12,
    "is_ordered": 13,
    "total_attendance": 14,
    "count_ordered": 15,
    "best_with_price": 16,
    "best_with_attendance": 17,
    "best_single_price": 18,
    "revenue_if_step": 19,
    "revenue_without": 20,
    "get_block": 21,
    "get_state": 22,
}

HUGE = 4294967295


def written(calls):
    """One list of whole numbers for calls such as ("add_block", 10, [3, 2])."""
    numbers = []
    for call in calls:
        numbers.append(NUMBERS[call[0]])
        for argument in call[1:]:
            if isinstance(argument, list):
                numbers.append(len(argument))
                numbers.extend(argument)
            else:
                numbers.append(argument)
    return numbers


def split(results):
    """The answers, one list for each call."""
    lists = []
    at = 0
    while at < len(results):
        end = at + 1 + results[at]
        if end > len(results):
            raise AssertionError("an answer is shorter than its count tells")
        lists.append(results[at + 1:end])
        at = end
    return lists


def run(*calls):
    lists = split(answers(written(calls)))
    if len(lists) != len(calls):
        raise AssertionError("there are not as many answers as calls")
    return lists


def last(*calls):
    return run(*calls)[-1]


def probe(max_price, seats):
    """Calls whose answers tell all that a planner holds: for each block the seats are told by setting them to what
    they are said to be, and the demand, unhidden by the seats, by each attendance at 999 seats."""
    calls = [("best_prices",), ("unconstrained_prices",), ("ordering_loss",)]
    for block in range(len(seats)):
        calls.append(("set_seats", block, 999))
        for price in range(max_price + 1):
            calls.append(("attendance", block, price))
        calls.append(("set_seats", block, seats[block]))
    calls.append(("attendance", len(seats), 0))
    calls.append(("attendance", 0, max_price + 1))
    calls.append(("set_max_step", 0))
    return calls


def slow_tables(blocks):
    return [
        [price * min(seats, demand[price]) for price in range(len(demand))]
        for seats, demand in blocks
    ]


def slow_best(blocks, max_price, max_step):
    """The best prices by trying every price list in lexicographic order."""
    tables = slow_tables(blocks)
    best = None
    for prices in product(range(max_price + 1), repeat=len(blocks)):
        if any(not b <= a <= b + max_step for a, b in zip(prices, prices[1:])):
            continue
        total = sum(table[price] for table, price in zip(tables, prices))
        if best is None or total > best[0]:
            best = [total, *prices]
    return best


def slow_singles(blocks):
    total = 0
    prices = []
    for table in slow_tables(blocks):
        best = max(table)
        total += best
        prices.append([price for price in range(len(table)) if table[price] == best][0])
    return [total, *prices]
