"""The planner of ticket prices: reads a list of calls and answers each of them."""

from blockprices.ordering import keeps_order, ordered_lists
from blockprices.pricing import Block, attendance_at, attendance_table, revenue_at, revenue_table
from blockprices.pricing import best_listed, best_ordered, best_singles, total_at

GREATEST_PRICE = 7
GREATEST_STEP = 7
MOST_PEOPLE = 999
MOST_BLOCKS = 5

NO_BLOCK = -2
NO_PLANNER = -11
OUT_OF_RANGE = -22
TOO_MANY_BLOCKS = -28
NO_PRICE_LIST = -33

CREATE = 0

# How many single numbers stand behind the number of a call, for the calls 0 to 22.
SINGLES = (2, 1, 1, 2, 1, 1, 2, 2, 2, 0, 0, 0, 0, 0, 0, 0, 2, 1, 1, 1, 1, 1, 0)

# The calls that have a row of numbers behind the single ones.
WITH_ROW = (1, 4, 12, 13, 14)


class Planner:
    def __init__(self, max_price, max_step):
        self.max_price = max_price
        self.max_step = max_step
        self.blocks = []


class Session:
    def __init__(self):
        self.planner = None


def has_block(planner, block):
    return block < len(planner.blocks)


# Empty when the planner has the block and the price.
def refusal_at(planner, block, price):
    if not has_block(planner, block):
        return [NO_BLOCK]
    if price > planner.max_price:
        return [OUT_OF_RANGE]
    return []


def is_demand(planner, demand):
    if len(demand) != planner.max_price + 1:
        return False
    if max(demand) > MOST_PEOPLE:
        return False
    return demand == sorted(demand, reverse=True)


def is_price_list(planner, prices):
    return len(prices) == len(planner.blocks) and max(prices, default=0) <= planner.max_price


def revenue_tables(planner):
    return [revenue_table(block) for block in planner.blocks]


def attendance_tables(planner):
    return [attendance_table(block) for block in planner.blocks]


def all_ordered(planner):
    return ordered_lists(len(planner.blocks), planner.max_price, planner.max_step)


def best_choice(planner):
    return best_ordered(revenue_tables(planner), planner.max_price, planner.max_step)


def single_choice(planner):
    return best_singles(revenue_tables(planner))


def told_whole(choice):
    return [choice.total] + choice.prices


def create(session, arguments):
    max_price = arguments[0]
    max_step = arguments[1]
    if max_price < 1 or max_price > GREATEST_PRICE or max_step > GREATEST_STEP:
        return [OUT_OF_RANGE]
    session.planner = Planner(max_price, max_step)
    return [0]


def add_block(planner, arguments):
    seats = arguments[0]
    demand = arguments[1]
    if seats > MOST_PEOPLE or not is_demand(planner, demand):
        return [OUT_OF_RANGE]
    if len(planner.blocks) == MOST_BLOCKS:
        return [TOO_MANY_BLOCKS]
    planner.blocks.append(Block(seats, demand))
    return [len(planner.blocks) - 1]


def remove_block(planner, arguments):
    block = arguments[0]
    if not has_block(planner, block):
        return [NO_BLOCK]
    planner.blocks.pop(block)
    return [len(planner.blocks)]


def set_seats(planner, arguments):
    block = arguments[0]
    seats = arguments[1]
    if not has_block(planner, block):
        return [NO_BLOCK]
    if seats > MOST_PEOPLE:
        return [OUT_OF_RANGE]
    changed = planner.blocks[block]
    previous = changed.seats
    changed.seats = seats
    return [previous]


def set_demand(planner, arguments):
    block = arguments[0]
    demand = arguments[1]
    if not has_block(planner, block):
        return [NO_BLOCK]
    if not is_demand(planner, demand):
        return [OUT_OF_RANGE]
    changed = planner.blocks[block]
    changed.demand = demand
    return [0]


def set_max_step(planner, arguments):
    step = arguments[0]
    if step > GREATEST_STEP:
        return [OUT_OF_RANGE]
    previous = planner.max_step
    planner.max_step = step
    return [previous]


def swap_blocks(planner, arguments):
    i = arguments[0]
    j = arguments[1]
    if not has_block(planner, i) or not has_block(planner, j):
        return [NO_BLOCK]
    blocks = planner.blocks
    moved = blocks[i]
    blocks[i] = blocks[j]
    blocks[j] = moved
    return [len(blocks)]


def attendance(planner, arguments):
    block = arguments[0]
    price = arguments[1]
    refused = refusal_at(planner, block, price)
    if refused:
        return refused
    return [attendance_at(planner.blocks[block], price)]


def revenue(planner, arguments):
    block = arguments[0]
    price = arguments[1]
    refused = refusal_at(planner, block, price)
    if refused:
        return refused
    return [revenue_at(planner.blocks[block], price)]


def best_prices(planner, arguments):
    return told_whole(best_choice(planner))


def unconstrained_prices(planner, arguments):
    return told_whole(single_choice(planner))


def ordering_loss(planner, arguments):
    return [single_choice(planner).total - best_choice(planner).total]


def total_revenue(planner, arguments):
    prices = arguments[0]
    if not is_price_list(planner, prices):
        return [OUT_OF_RANGE]
    return [total_at(revenue_tables(planner), prices)]


def is_ordered(planner, arguments):
    prices = arguments[0]
    if not is_price_list(planner, prices):
        return [OUT_OF_RANGE]
    return [1 if keeps_order(prices, planner.max_step) else 0]


def total_attendance(planner, arguments):
    prices = arguments[0]
    if not is_price_list(planner, prices):
        return [OUT_OF_RANGE]
    return [total_at(attendance_tables(planner), prices)]


def count_ordered(planner, arguments):
    return [len(all_ordered(planner))]


def best_with_price(planner, arguments):
    block = arguments[0]
    price = arguments[1]
    refused = refusal_at(planner, block, price)
    if refused:
        return refused
    lists = [prices for prices in all_ordered(planner) if prices[block] == price]
    return told_whole(best_listed(revenue_tables(planner), lists))


def best_with_attendance(planner, arguments):
    min_attendance = arguments[0]
    tables = attendance_tables(planner)
    lists = [prices for prices in all_ordered(planner) if total_at(tables, prices) >= min_attendance]
    if not lists:
        return [NO_PRICE_LIST]
    return told_whole(best_listed(revenue_tables(planner), lists))


def best_single_price(planner, arguments):
    block = arguments[0]
    if not has_block(planner, block):
        return [NO_BLOCK]
    single = best_singles([revenue_table(planner.blocks[block])])
    return [single.prices[0], single.total]


def revenue_if_step(planner, arguments):
    step = arguments[0]
    if step > GREATEST_STEP:
        return [OUT_OF_RANGE]
    return [best_ordered(revenue_tables(planner), planner.max_price, step).total]


def revenue_without(planner, arguments):
    block = arguments[0]
    if not has_block(planner, block):
        return [NO_BLOCK]
    tables = revenue_tables(planner)
    tables.pop(block)
    return [best_ordered(tables, planner.max_price, planner.max_step).total]


def get_block(planner, arguments):
    block = arguments[0]
    if not has_block(planner, block):
        return [NO_BLOCK]
    told = planner.blocks[block]
    return [told.seats] + told.demand


def get_state(planner, arguments):
    return [len(planner.blocks), planner.max_price, planner.max_step]


# create is not among them: it alone does without a planner.
OPERATIONS = {
    1: add_block,
    2: remove_block,
    3: set_seats,
    4: set_demand,
    5: set_max_step,
    6: swap_blocks,
    7: attendance,
    8: revenue,
    9: best_prices,
    10: unconstrained_prices,
    11: ordering_loss,
    12: total_revenue,
    13: is_ordered,
    14: total_attendance,
    15: count_ordered,
    16: best_with_price,
    17: best_with_attendance,
    18: best_single_price,
    19: revenue_if_step,
    20: revenue_without,
    21: get_block,
    22: get_state,
}


def answer(session, number, arguments):
    if number == CREATE:
        return create(session, arguments)
    if session.planner is None:
        return [NO_PLANNER]
    operation = OPERATIONS[number]
    return operation(session.planner, arguments)


# The slices are copies, so that what a planner keeps is never the list that was handed in.
def answers(calls):
    session = Session()
    results = []
    place = 0
    while place < len(calls):
        number = calls[place]
        first = place + 1
        place = first + SINGLES[number]
        arguments = calls[first:place]
        if number in WITH_ROW:
            row_end = place + 1 + calls[place]
            arguments.append(calls[place + 1:row_end])
            place = row_end
        answered = answer(session, number, arguments)
        results.append(len(answered))
        results.extend(answered)
    return results
