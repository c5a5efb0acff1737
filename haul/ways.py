"""What a way costs, and the cheapest way along a road that has one.

From the last station back to the first, a table tells for each amount what the rest of
the road costs at least. An amount stands in a table at the amount plus REACH.

A way is told as what goes on from each station, the last one too, from which nothing does.
"""

from haul.road import NO_PIT

# A unit that is hauled from pit to pit only costs, so past a station go no more than
# the 9 units of each of 8 stations; with those of one more station added, 81.
REACH = 81

# More than any way within REACH costs: at each of 8 stations less than 200 units at a pit for 50,
# and REACH units hauled for 10.
NEVER = 1000000


def least_cost(road):
    return rest_costs(road)[0][REACH]


def cheapest_way(road):
    """Of like ways the first: at each station the least amount that keeps the cost least."""
    tables = rest_costs(road)
    way = []
    came = 0
    for i in range(road.stations):
        came = first_onward(road, i, came, tables)
        way.append(came)
    return way


def way_cost(road, way):
    """What the way costs; NEVER or more where it is none, for want of a pit."""
    cost = 0
    came = 0
    for i in range(road.stations):
        cost += onward_cost(road, i, came + road.surplus(i), way[i])
        came = way[i]
    return cost


def pit_amounts(road, way):
    """For each station what is borrowed there, or below 0 what is spoiled there."""
    amounts = []
    came = 0
    for i in range(road.stations):
        amounts.append(way[i] - came - road.surplus(i))
        came = way[i]
    return amounts


def rest_costs(road):
    """A table for each station, by what comes to it, and one for what goes on behind the last."""
    table = [NEVER] * (2 * REACH + 1)
    table[REACH] = 0
    tables = [table]
    for i in range(road.stations - 1, -1, -1):
        table = with_hauling(table, road.step_cost)
        table = with_borrowing(table, road.borrow_prices[i])
        table = with_spoiling(table, road.spoil_prices[i])
        table = shifted(table, road.surplus(i))
        tables.append(table)
    tables.reverse()
    return tables


def with_hauling(table, step_cost):
    return [cost + step_cost * abs(k - REACH) for k, cost in enumerate(table)]


def with_borrowing(table, price):
    costs = list(table)
    if price != NO_PIT:
        for k in range(len(costs) - 2, -1, -1):
            costs[k] = min(costs[k], costs[k + 1] + price)
    return costs


def with_spoiling(table, price):
    """Behind with_borrowing this never pays for both: to leave out a unit of each is no dearer."""
    costs = list(table)
    if price != NO_PIT:
        for k in range(1, len(costs)):
            costs[k] = min(costs[k], costs[k - 1] + price)
    return costs


def shifted(table, surplus):
    """The table by what comes to a station, from the one by what is there with its surplus."""
    size = len(table)
    return [table[k + surplus] if 0 <= k + surplus < size else NEVER for k in range(size)]


def first_onward(road, i, came, tables):
    """The least amount that may go on from station i in a cheapest way."""
    there = came + road.surplus(i)
    least = tables[i][came + REACH]
    onward = -REACH
    while onward_cost(road, i, there, onward) + tables[i + 1][onward + REACH] != least:
        onward += 1
    return onward


def onward_cost(road, i, there, onward):
    """What is paid at station i, and to the next one, if so much of what is there goes on."""
    hauling = road.step_cost * abs(onward)
    if onward > there:
        return hauling + pit_cost(road.borrow_prices[i], onward - there)
    if onward < there:
        return hauling + pit_cost(road.spoil_prices[i], there - onward)
    return hauling


def pit_cost(price, amount):
    return NEVER if price == NO_PIT else price * amount
