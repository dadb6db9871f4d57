"""The planner of ticket prices: reads a list of calls and answers each of them."""

from blockprices.pricing import Block, attendance_at, best_ordered, best_singles, revenue_at, revenue_table

GREATEST_PRICE = 7
GREATEST_STEP = 7
MOST_PEOPLE = 999
MOST_BLOCKS = 5

NO_BLOCK = -2
NO_PLANNER = -11
OUT_OF_RANGE = -22
TOO_MANY_BLOCKS = -28

CREATE = 0

# How many single numbers stand behind the number of a call, for the calls 0 to 22.
SINGLES = (2, 1, 1, 2, 1, 1, 2, 2, 2, 0, 0, 0, 0, 0, 0, 0, 2, 1, 1, 1, 1, 1, 0)

# The calls that have a row of numbers behind the single ones.
WITH_ROW = (1, 4, 12, 13, 14)


class Planner:
    def __init__(self, max_price, max_step):
        self.max_price = max_price
        self.max_step = max_step
        self.blocks = []


class Session:
    def __init__(self):
        self.planner = None


def has_block(planner, block):
    return block < len(planner.blocks)


# Empty when the planner has the block and the price.
def refusal_at(planner, block, price):
    if not has_block(planner, block):
        return [NO_BLOCK]
    if price > planner.max_price:
        return [OUT_OF_RANGE]
    return []


def is_demand(planner, demand):
    if len(demand) != planner.max_price + 1:
        return False
    if max(demand) > MOST_PEOPLE:
        return False
    return demand == sorted(demand, reverse=True)


def revenue_tables(planner):
    return [revenue_table(block) for block in planner.blocks]


def best_choice(planner):
    return best_ordered(revenue_tables(planner), planner.max_price, planner.max_step)


def single_choice(planner):
    return best_singles(revenue_tables(planner))


def create(session, arguments):
    max_price = arguments[0]
    max_step = arguments[1]
    if max_price < 1 or max_price > GREATEST_PRICE or max_step > GREATEST_STEP:
        return [OUT_OF_RANGE]
    session.planner = Planner(max_price, max_step)
    return [0]


def add_block(planner, arguments):
    seats = arguments[0]
    demand = arguments[1]
    if seats > MOST_PEOPLE or not is_demand(planner, demand):
        return [OUT_OF_RANGE]
    if len(planner.blocks) == MOST_BLOCKS:
        return [TOO_MANY_BLOCKS]
    planner.blocks.append(Block(seats, demand))
    return [len(planner.blocks) - 1]


def remove_block(planner, arguments):
    block = arguments[0]
    if not has_block(planner, block):
        return [NO_BLOCK]
    planner.blocks.pop(block)
    return [len(planner.blocks)]


def set_seats(planner, arguments):
    block = arguments[0]
    seats = arguments[1]
    if not has_block(planner, block):
        return [NO_BLOCK]
    if seats > MOST_PEOPLE:
        return [OUT_OF_RANGE]
    changed = planner.blocks[block]
    previous = changed.seats
    changed.seats = seats
    return [previous]


def set_demand(planner, arguments):
    block = arguments[0]
    demand = arguments[1]
    if not has_block(planner, block):
        return [NO_BLOCK]
    if not is_demand(planner, demand):
        return [OUT_OF_RANGE]
    changed = planner.blocks[block]
    changed.demand = demand
    return [0]


def set_max_step(planner, arguments):
    step = arguments[0]
    if step > GREATEST_STEP:
        return [OUT_OF_RANGE]
    previous = planner.max_step
    planner.max_step = step
    return [previous]


def swap_blocks(planner, arguments):
    i = arguments[0]
    j = arguments[1]
    if not has_block(planner, i) or not has_block(planner, j):
        return [NO_BLOCK]
    blocks = planner.blocks
    moved = blocks[i]
    blocks[i] = blocks[j]
    blocks[j] = moved
    return [len(blocks)]


def attendance(planner, arguments):
    block = arguments[0]
    price = arguments[1]
    refused = refusal_at(planner, block, price)
    if refused:
        return refused
    return [attendance_at(planner.blocks[block], price)]


def revenue(planner, arguments):
    block = arguments[0]
    price = arguments[1]
    refused = refusal_at(planner, block, price)
    if refused:
        return refused
    return [revenue_at(planner.blocks[block], price)]


def best_prices(planner, arguments):
    best = best_choice(planner)
    return [best.total] + best.prices


def unconstrained_prices(planner, arguments):
    single = single_choice(planner)
    return [single.total] + single.prices


def ordering_loss(planner, arguments):
    return [single_choice(planner).total - best_choice(planner).total]


# create is not among them: it alone does without a planner.
OPERATIONS = {
    1: add_block,
    2: remove_block,
    3: set_seats,
    4: set_demand,
    5: set_max_step,
    6: swap_blocks,
    7: attendance,
    8: revenue,
    9: best_prices,
    10: unconstrained_prices,
    11: ordering_loss,
}


def answer(session, number, arguments):
    if number == CREATE:
        return create(session, arguments)
    if session.planner is None:
        return [NO_PLANNER]
    operation = OPERATIONS[number]
    return operation(session.planner, arguments)


# The slices are copies, so that what a planner keeps is never the list that was handed in.
def answers(calls):
    session = Session()
    results = []
    place = 0
    while place < len(calls):
        number = calls[place]
        first = place + 1
        place = first + SINGLES[number]
        arguments = calls[first:place]
        if number in WITH_ROW:
            row_end = place + 1 + calls[place]
            arguments.append(calls[place + 1:row_end])
            place = row_end
        answered = answer(session, number, arguments)
        results.append(len(answered))
        results.extend(answered)
    return results
