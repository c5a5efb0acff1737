"""The calls on a road, and the answers to a line of them."""

from haul.loads import loads_of
from haul.road import NO_PIT, Road
from haul.ways import cheapest_way, least_cost, pit_amounts

NO_STATION = -2
NO_SUCH_PIT = -6
NOT_BEGUN = -11
OUT_OF_RANGE = -22
NO_WAY = -33

LEAST_STATIONS = 2
MOST_STATIONS = 8
LEAST_STEP = 1
MOST_STEP = 10
MOST_EARTH = 9
MOST_PRICE = 50


def swap(kept, i, x):
    before = kept[i]
    kept[i] = x
    return before


def is_step(t):
    return LEAST_STEP <= t <= MOST_STEP


def refusal(road, numbers, most):
    """Of a station and a number for it, the refusal that is due, or 0."""
    if numbers[0] >= road.stations:
        return NO_STATION
    if numbers[1] > most:
        return OUT_OF_RANGE
    return 0


def put_earth(road, kept, numbers):
    refused = refusal(road, numbers, MOST_EARTH)
    if refused < 0:
        return [refused]
    return [swap(kept, numbers[0], numbers[1])]


def put_pit(road, prices, numbers):
    refused = refusal(road, numbers, MOST_PRICE)
    if refused < 0:
        return [refused]
    return [swap(prices, numbers[0], numbers[1]) + 1]


def take_pit(road, prices, i):
    if i >= road.stations:
        return [NO_STATION]
    if prices[i] == NO_PIT:
        return [NO_SUCH_PIT]
    return [swap(prices, i, NO_PIT)]


def begin(road, numbers):
    n = numbers[0]
    t = numbers[1]
    if n < LEAST_STATIONS or n > MOST_STATIONS or not is_step(t):
        return [OUT_OF_RANGE]
    road.lay(n, t)
    return [0]


def have(road, numbers):
    return put_earth(road, road.had, numbers)


def need(road, numbers):
    return put_earth(road, road.needed, numbers)


def borrow(road, numbers):
    return put_pit(road, road.borrow_prices, numbers)


def noborrow(road, numbers):
    return take_pit(road, road.borrow_prices, numbers[0])


def spoil(road, numbers):
    return put_pit(road, road.spoil_prices, numbers)


def nospoil(road, numbers):
    return take_pit(road, road.spoil_prices, numbers[0])


def step(road, numbers):
    t = numbers[0]
    if not is_step(t):
        return [OUT_OF_RANGE]
    before = road.step_cost
    road.step_cost = t
    return [before]


def can(road, numbers):
    return [1 if road.has_way() else 0]


def cost(road, numbers):
    if not road.has_way():
        return [NO_WAY]
    return [least_cost(road)]


def flows(road, numbers):
    if not road.has_way():
        return [NO_WAY]
    gaps = road.stations - 1
    return [gaps] + cheapest_way(road)[:gaps]


def loads(road, numbers):
    if not road.has_way():
        return [NO_WAY]
    found = loads_of(road, cheapest_way(road))
    told = [len(found)]
    for load in found:
        told.extend(load)
    return told


def borrowed(road, numbers):
    if not road.has_way():
        return [NO_WAY]
    amounts = [max(amount, 0) for amount in pit_amounts(road, cheapest_way(road))]
    return [sum(amounts)] + amounts


# Each call stands at its number.
CALLS = (begin, have, need, borrow, noborrow, spoil, nospoil, step, can, cost, flows, loads, borrowed)

# How many whole numbers stand behind each call's number.
HOW_MANY = (2, 2, 2, 2, 1, 2, 1, 1, 0, 0, 0, 0, 0)

BEGIN = 0


def answer(road, number, numbers):
    if road.stations == 0 and number != BEGIN:
        return [NOT_BEGUN]
    call = CALLS[number]
    return call(road, numbers)


def answers(calls):
    """For each call of the line, in order, how many numbers are answered, and these."""
    road = Road()
    told = []
    at = 0
    while at < len(calls):
        number = calls[at]
        behind = at + 1 + HOW_MANY[number]
        numbers = answer(road, number, calls[at + 1:behind])
        told.append(len(numbers))
        told.extend(numbers)
        at = behind
    return told
