"""What the tests share: calls by their names, and plain searches through all ways and all rows of prices."""

from itertools import product

from haul.earth import answers

NAMES = ("begin have need borrow noborrow spoil nospoil step can cost flows loads borrowed spoiled "
         "try_way prices bound ifstep ifpit bestpit without farthest station sums state").split()
HOW_MANY = dict(begin=2, have=2, need=2, borrow=2, noborrow=1, spoil=2, nospoil=1, step=1,
                ifstep=1, ifpit=2, bestpit=1, without=1, station=1)
WITH_ROW = ("try_way", "bound")

# The calls that only tell, and need nothing to be asked.
LOOKS = ("can", "cost", "flows", "loads", "borrowed", "spoiled", "prices", "farthest", "sums", "state")
MOST = 4294967295

# Each station has earth, needs some, and has both pits.
FULL = "begin 2 3, have 0 5, have 1 2, need 0 1, need 1 8, borrow 0 4, borrow 1 40, spoil 0 7, spoil 1 9"

# The last of these answer what was told before, so that they show all that the object holds.
SHOW = LOOKS + ("station 0", "station 1", "station 2", "station 7",
                "have 0 0", "have 1 0", "need 0 0", "need 1 0", "noborrow 0", "noborrow 1", "nospoil 0", "nospoil 1",
                "step 1", "have 2 0", "have 7 0")


def numbers_of(text):
    """The list of numbers of calls that are told as text: "begin 2 1, have 0 5, try_way 77"."""
    calls = []
    for part in text.split(","):
        words = part.split()
        if words:
            name, *numbers = words
            calls.append(NAMES.index(name))
            if name in WITH_ROW:
                calls.append(len(numbers))
            else:
                assert len(numbers) == HOW_MANY.get(name, 0), part
            calls.extend(int(word) for word in numbers)
    return calls


def told(text):
    """What is answered, a list for each call."""
    given = answers(numbers_of(text))
    parts = []
    at = 0
    while at < len(given):
        parts.append(given[at + 1:at + 1 + given[at]])
        at += 1 + given[at]
    assert at == len(given), given
    return parts


def last(text):
    return told(text)[-1]


def shown(text):
    """All that the object holds after the calls of the text, looks first."""
    return told(text + ", " + ", ".join(SHOW))[-len(SHOW):]


def written(name, row, more):
    """The call with a row that is told with so much added to each number."""
    return " ".join([name, *(str(number + more) for number in row)])


class Line:
    """A road as the tests know it: had, needed, and price or None of each pit."""

    def __init__(self, step, had, needed, borrow, spoil):
        self.step = step
        self.had = list(had)
        self.needed = list(needed)
        self.borrow = list(borrow)
        self.spoil = list(spoil)
        self.size = len(had)

    def other(self):
        return Line(self.step, self.had, self.needed, self.borrow, self.spoil)

    def with_step(self, step):
        line = self.other()
        line.step = step
        return line

    def with_pit(self, i, price):
        line = self.other()
        line.borrow[i] = price
        return line

    def without(self, i):
        line = self.other()
        line.borrow[i] = line.spoil[i] = None
        return line

    def text(self):
        parts = [f"begin {self.size} {self.step}"]
        for i in range(self.size):
            parts += [f"have {i} {self.had[i]}", f"need {i} {self.needed[i]}"]
            parts += [f"borrow {i} {self.borrow[i]}"] * (self.borrow[i] is not None)
            parts += [f"spoil {i} {self.spoil[i]}"] * (self.spoil[i] is not None)
        return ", ".join(parts)

    def ask(self, calls):
        """What the program answers to each call, some at a time: a line has no more than 256."""
        given = []
        for at in range(0, len(calls), 200):
            part = calls[at:at + 200]
            given += told(self.text() + ", " + ", ".join(part))[-len(part):]
        return given

    def looks(self):
        """What the program answers to each look."""
        return dict(zip(LOOKS, self.ask(LOOKS)))

    def at_pits(self, flows):
        """For each station what is borrowed, or below 0 what is spoiled."""
        ends = [0, *flows, 0]
        return [ends[i + 1] - ends[i] - self.had[i] + self.needed[i] for i in range(self.size)]

    def cost_of(self, flows):
        """What the way costs, None where it is none."""
        cost = self.step * sum(abs(flow) for flow in flows)
        for i, amount in enumerate(self.at_pits(flows)):
            price = self.borrow[i] if amount > 0 else self.spoil[i]
            if amount != 0 and price is None:
                return None
            cost += abs(amount) * (price or 0)
        return cost

    def search(self, most):
        """The cost and the flows of the cheapest way, the first of like ones, or None."""
        best = None
        for flows in product(range(-most, most + 1), repeat=self.size - 1):
            cost = self.cost_of(flows)
            if cost is not None and (best is None or cost < best[0]):
                best = (cost, list(flows))
        return best

    def least(self, most):
        """What cost is to answer."""
        best = self.search(most)
        return -33 if best is None else best[0]

    def units(self, flows):
        """From where each unit comes, and to where each goes, both from the left on."""
        sources = []
        sinks = []
        for i, amount in enumerate(self.at_pits(flows)):
            sources += [i] * (self.had[i] + max(amount, 0))
            sinks += [i] * (self.needed[i] + max(-amount, 0))
        return sources, sinks

    def expected_of(self, flows):
        """What the document asks of the looks at a cheapest way."""
        pairs = list(zip(*self.units(flows)))
        loads = [(a, b, pairs.count((a, b))) for a, b in dict.fromkeys(pairs) if a != b]
        borrowed = [max(amount, 0) for amount in self.at_pits(flows)]
        spoiled = [max(-amount, 0) for amount in self.at_pits(flows)]
        return dict(can=[1], cost=[self.cost_of(flows)], flows=[len(flows), *flows],
                    loads=[len(loads), *(number for load in loads for number in load)],
                    borrowed=[sum(borrowed), *borrowed], spoiled=[sum(spoiled), *spoiled],
                    farthest=[max([abs(a - b) for a, b in pairs], default=0)])

    def expected(self, most):
        """What the document asks of each look but prices, by the plain search."""
        best = self.search(most)
        if best is None:
            asked = dict.fromkeys(("cost", "flows", "loads", "borrowed", "spoiled", "farthest"), [-33])
            asked["can"] = [0]
        else:
            asked = self.expected_of(best[1])
        asked["sums"] = [0, sum(self.had), sum(self.needed)]
        pits = [sum(price is not None for price in prices) for prices in (self.borrow, self.spoil)]
        asked["state"] = [0, self.size, self.step, *pits]
        return asked

    def allows(self, row):
        """Whether the row of prices is allowed."""
        return (all(abs(row[i] - row[i + 1]) <= self.step for i in range(self.size - 1))
                and all(self.suits(i, price) for i, price in enumerate(row)))

    def suits(self, i, price):
        return ((self.borrow[i] is None or price <= self.borrow[i])
                and (self.spoil[i] is None or price >= -self.spoil[i]))

    def says(self, row):
        return sum((self.needed[i] - self.had[i]) * price for i, price in enumerate(row))

    def order(self, row):
        """Of two rows the one is told for which this is less."""
        return (-self.says(row), abs(row[0]), list(row))

    def rows(self):
        """All rows from -130 to 130 that are allowed."""
        rows = [(price,) for price in range(-130, 131) if self.suits(0, price)]
        for i in range(1, self.size):
            rows = [(*row, price) for row in rows
                    for price in range(max(row[-1] - self.step, -130), min(row[-1] + self.step, 130) + 1)
                    if self.suits(i, price)]
        return rows
