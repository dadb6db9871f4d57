"""What blocks earn at which prices, and the prices that earn the most."""


class Block:
    def __init__(self, seats, demand):
        self.seats = seats
        self.demand = demand


# A price list for some blocks and its total revenue.
class Choice:
    def __init__(self, total, prices):
        self.total = total
        self.prices = prices


def attendance_at(block, price):
    return min(block.seats, block.demand[price])


def revenue_at(block, price):
    return price * attendance_at(block, price)


# The revenue of the block at each price from 0 on.
def revenue_table(block):
    return [revenue_at(block, price) for price in range(len(block.demand))]


# The attendance of the block at each price from 0 on.
def attendance_table(block):
    return [attendance_at(block, price) for price in range(len(block.demand))]


# The tables hold a block's revenue or its attendance at each price, one table for each block.
def total_at(tables, prices):
    return sum([table[price] for table, price in zip(tables, prices)])


# Every block at its best single price. index finds the first place, so the lowest price wins a tie.
def best_singles(tables):
    prices = [table.index(max(table)) for table in tables]
    total = sum([max(table) for table in tables])
    return Choice(total, prices)


# The best prices, found from the last block to the first. choices[p] is the best choice for the blocks seen
# so far among those that begin with the price p. Below the last block stands an empty list at every price:
# it earns nothing and forbids nothing.
def best_ordered(tables, max_price, max_step):
    choices = [Choice(0, []) for price in range(max_price + 1)]
    for table in reversed(tables):
        choices = [
            led_by(price, table[price], choices, max_step)
            for price in range(max_price + 1)
        ]
    return first_best(choices)


# The best choice with one more block at its head, which has this price and earns this much.
def led_by(price, earned, choices, max_step):
    lowest = max(0, price - max_step)
    rest = first_best(choices[lowest:price + 1])
    return Choice(earned + rest.total, [price] + rest.prices)


# The best of these price lists, which stand in lexicographic order; there is at least one.
def best_listed(tables, lists):
    return first_best([Choice(total_at(tables, prices), prices) for prices in lists])


# The choices stand in lexicographic order, so the first of equally good ones is the smallest.
def first_best(choices):
    best = choices[0]
    for choice in choices:
        if choice.total > best.total:
            best = choice
    return best
