"""Rows of prices: which are allowed, what one says, and the row told.

From the last station back to the first, a table tells for each price there what the rest of
a row says at most. A price stands in a table at the price plus MOST_WORTH.
"""

from haul.road import NO_PIT

# Prices of the row told are from 0 less this to this.
MOST_WORTH = 130

# So far below what any row says that nothing said at the other stations makes up for it.
BARRED = -1000000


def is_allowed(road, row):
    for i in range(road.stations):
        if not suits_pits(road, i, row[i]):
            return False
        if i > 0 and abs(row[i] - row[i - 1]) > road.step_cost:
            return False
    return True


def suits_pits(road, i, price):
    if road.borrow_prices[i] != NO_PIT and price > road.borrow_prices[i]:
        return False
    return road.spoil_prices[i] == NO_PIT or price >= -road.spoil_prices[i]


def what_it_says(road, row):
    return sum([said_at(road, i, price) for i, price in enumerate(row)])


def said_at(road, i, price):
    return -road.surplus(i) * price


def row_told(road):
    """Of the rows that say most the first, by its price at station 0 and then by the lesser ones."""
    tables = most_said(road)
    row = [first_price(tables[0])]
    for i in range(1, road.stations):
        row.append(next_price(tables[i], row[i - 1], road.step_cost))
    return row


def most_said(road):
    """A table for each station."""
    tables = []
    behind = [0] * (2 * MOST_WORTH + 1)
    for i in range(road.stations - 1, -1, -1):
        table = [said_or_barred(road, i, k - MOST_WORTH) + most for k, most in enumerate(behind)]
        tables.append(table)
        behind = [max(within_a_step(table, k, road.step_cost)) for k in range(len(table))]
    tables.reverse()
    return tables


def said_or_barred(road, i, price):
    return said_at(road, i, price) if suits_pits(road, i, price) else BARRED


def within_a_step(table, k, step_cost):
    """The part of the table for the prices that may stand beside the one at k."""
    return table[max(k - step_cost, 0):k + step_cost + 1]


def first_price(table):
    most = max(table)
    return min([k - MOST_WORTH for k, said in enumerate(table) if said == most], key=nearness)


def nearness(price):
    return (abs(price), price)


def next_price(table, before, step_cost):
    """The least price behind the one before it with which the rest still says most."""
    k = before + MOST_WORTH
    part = within_a_step(table, k, step_cost)
    return max(before - step_cost, -MOST_WORTH) + part.index(max(part))
