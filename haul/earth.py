"""The calls on a road, and the answers to a line of them."""

from haul.loads import loads_of
from haul.prices import MOST_WORTH, is_allowed, row_told, what_it_says
from haul.road import NO_PIT, Road
from haul.ways import NEVER, cheapest_way, least_cost, pit_amounts, way_cost

NO_STATION = -2
NO_SUCH_PIT = -6
NOT_BEGUN = -11
OUT_OF_RANGE = -22
CANNOT_BE = -33

LEAST_STATIONS = 2
MOST_STATIONS = 8
LEAST_STEP = 1
MOST_STEP = 10
MOST_EARTH = 9
MOST_PRICE = 50

# Rows hold no number below 0, so an amount of a way is told with this added to it.
MOST_HAULED = 72


def swap(kept, i, x):
    before = kept[i]
    kept[i] = x
    return before


def is_step(t):
    return LEAST_STEP <= t <= MOST_STEP


def refusal(road, numbers, most):
    """Of a station and a number for it, the refusal that is due, or 0."""
    if numbers[0] >= road.stations:
        return NO_STATION
    if numbers[1] > most:
        return OUT_OF_RANGE
    return 0


def row_fits(row, size, most):
    return len(row) == size and max(row) <= most


def lowered(row, much):
    return [x - much for x in row]


def put_earth(road, kept, numbers):
    refused = refusal(road, numbers, MOST_EARTH)
    if refused < 0:
        return [refused]
    return [swap(kept, numbers[0], numbers[1])]


def put_pit(road, pits, numbers):
    refused = refusal(road, numbers, MOST_PRICE)
    if refused < 0:
        return [refused]
    return [swap(pits, numbers[0], numbers[1]) + 1]


def take_pit(road, pits, i):
    if i >= road.stations:
        return [NO_STATION]
    if pits[i] == NO_PIT:
        return [NO_SUCH_PIT]
    return [swap(pits, i, NO_PIT)]


def count_pits(pits):
    return len(pits) - pits.count(NO_PIT)


def cost_or_refusal(road):
    return least_cost(road) if road.has_way() else CANNOT_BE


def cost_with_pit(road, i, p):
    other = road.twin()
    other.borrow_prices[i] = p
    return cost_or_refusal(other)


def in_all_and_each(amounts):
    return [sum(amounts)] + amounts


def begin(road, numbers):
    n = numbers[0]
    t = numbers[1]
    if n < LEAST_STATIONS or n > MOST_STATIONS or not is_step(t):
        return [OUT_OF_RANGE]
    road.lay(n, t)
    return [0]


def have(road, numbers):
    return put_earth(road, road.had, numbers)


def need(road, numbers):
    return put_earth(road, road.needed, numbers)


def borrow(road, numbers):
    return put_pit(road, road.borrow_prices, numbers)


def noborrow(road, numbers):
    return take_pit(road, road.borrow_prices, numbers[0])


def spoil(road, numbers):
    return put_pit(road, road.spoil_prices, numbers)


def nospoil(road, numbers):
    return take_pit(road, road.spoil_prices, numbers[0])


def step(road, numbers):
    t = numbers[0]
    if not is_step(t):
        return [OUT_OF_RANGE]
    before = road.step_cost
    road.step_cost = t
    return [before]


def can(road, numbers):
    return [1 if road.has_way() else 0]


def cost(road, numbers):
    return [cost_or_refusal(road)]


def flows(road, numbers):
    if not road.has_way():
        return [CANNOT_BE]
    gaps = road.stations - 1
    return [gaps] + cheapest_way(road)[:gaps]


def loads(road, numbers):
    if not road.has_way():
        return [CANNOT_BE]
    found = loads_of(road, cheapest_way(road))
    told = [len(found)]
    for load in found:
        told.extend(load)
    return told


def borrowed(road, numbers):
    if not road.has_way():
        return [CANNOT_BE]
    return in_all_and_each([max(amount, 0) for amount in pit_amounts(road, cheapest_way(road))])


def spoiled(road, numbers):
    if not road.has_way():
        return [CANNOT_BE]
    return in_all_and_each([max(-amount, 0) for amount in pit_amounts(road, cheapest_way(road))])


def try_way(road, row):
    if not row_fits(row, road.stations - 1, 2 * MOST_HAULED):
        return [OUT_OF_RANGE]
    found = way_cost(road, lowered(row, MOST_HAULED) + [0])
    return [found if found < NEVER else CANNOT_BE]


def prices(road, numbers):
    if not road.has_way():
        return [CANNOT_BE]
    return [road.stations] + row_told(road)


def bound(road, row):
    if not row_fits(row, road.stations, 2 * MOST_WORTH):
        return [OUT_OF_RANGE]
    worths = lowered(row, MOST_WORTH)
    if not is_allowed(road, worths):
        return [CANNOT_BE]
    return [0, what_it_says(road, worths)]


def ifstep(road, numbers):
    t = numbers[0]
    if not is_step(t):
        return [OUT_OF_RANGE]
    other = road.twin()
    other.step_cost = t
    return [cost_or_refusal(other)]


def ifpit(road, numbers):
    refused = refusal(road, numbers, MOST_PRICE)
    if refused < 0:
        return [refused]
    return [cost_with_pit(road, numbers[0], numbers[1])]


def bestpit(road, numbers):
    p = numbers[0]
    if p > MOST_PRICE:
        return [OUT_OF_RANGE]
    costs = [cost_with_pit(road, i, p) for i in range(road.stations)]
    found = [known for known in costs if known != CANNOT_BE]
    if len(found) == 0:
        return [CANNOT_BE]
    return [costs.index(min(found)), min(found)]


def without(road, numbers):
    i = numbers[0]
    if i >= road.stations:
        return [NO_STATION]
    other = road.twin()
    other.borrow_prices[i] = NO_PIT
    other.spoil_prices[i] = NO_PIT
    return [cost_or_refusal(other)]


def farthest(road, numbers):
    if not road.has_way():
        return [CANNOT_BE]
    return [max([abs(load[0] - load[1]) for load in loads_of(road, cheapest_way(road))], default=0)]


def station(road, numbers):
    i = numbers[0]
    if i >= road.stations:
        return [NO_STATION]
    return [road.had[i], road.needed[i], road.borrow_prices[i] + 1, road.spoil_prices[i] + 1]


def sums(road, numbers):
    return [0, sum(road.had), sum(road.needed)]


def state(road, numbers):
    return [0, road.stations, road.step_cost, count_pits(road.borrow_prices), count_pits(road.spoil_prices)]


# Each call stands at its number.
CALLS = (begin, have, need, borrow, noborrow, spoil, nospoil, step, can, cost, flows, loads, borrowed,
         spoiled, try_way, prices, bound, ifstep, ifpit, bestpit, without, farthest, station, sums, state)

# How many whole numbers stand behind each call's number.
HOW_MANY = (2, 2, 2, 2, 1, 2, 1, 1, 0, 0, 0, 0, 0, 0, 0, 0, 0, 1, 2, 1, 1, 0, 1, 0, 0)

# The calls that take a row in the place of these, with how many numbers it has before it.
WITH_ROW = (14, 16)

BEGIN = 0


def answer(road, number, numbers):
    if road.stations == 0 and number != BEGIN:
        return [NOT_BEGUN]
    call = CALLS[number]
    return call(road, numbers)


def answers(calls):
    """For each call of the line, in order, how many numbers are answered, and these."""
    road = Road()
    told = []
    at = 0
    while at < len(calls):
        number = calls[at]
        many = HOW_MANY[number]
        at += 1
        if number in WITH_ROW:
            many = calls[at]
            at += 1
        numbers = answer(road, number, calls[at:at + many])
        told.append(len(numbers))
        told.extend(numbers)
        at += many
    return told
