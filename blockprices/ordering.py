"""Which price lists are ordered."""


def may_stand_ahead(price, worse_price, max_step):
    return worse_price <= price <= worse_price + max_step


def keeps_order(prices, max_step):
    for i in range(len(prices) - 1):
        if not may_stand_ahead(prices[i], prices[i + 1], max_step):
            return False
    return True


# All ordered price lists for so many blocks, in lexicographic order: 792 at the most.
def ordered_lists(count, max_price, max_step):
    lists = [[]]
    for length in range(count):
        longer = []
        for price in range(max_price + 1):
            longer.extend(lists_led_by(price, lists, max_step))
        lists = longer
    return lists


# Lists in lexicographic order stay so behind one price that is the same for all.
def lists_led_by(price, lists, max_step):
    return [
        [price] + rest
        for rest in lists
        if not rest or may_stand_ahead(price, rest[0], max_step)
    ]
