"""What the tests share: calls by their names, and a plain search through all ways."""

from itertools import product

from haul.earth import answers

NAMES = ("begin have need borrow noborrow spoil nospoil step "
         "can cost flows loads borrowed").split()
HOW_MANY = dict(begin=2, have=2, need=2, borrow=2, noborrow=1, spoil=2, nospoil=1, step=1)
LOOKS = ("can", "cost", "flows", "loads", "borrowed")
MOST = 4294967295


def numbers_of(text):
    """The list of numbers of calls that are told as text: "begin 2 1, have 0 5, can"."""
    calls = []
    for part in text.split(","):
        words = part.split()
        if words:
            assert len(words) == 1 + HOW_MANY.get(words[0], 0), part
            calls.append(NAMES.index(words[0]))
            calls.extend(int(word) for word in words[1:])
    return calls


def told(text):
    """What is answered, a list for each call."""
    given = answers(numbers_of(text))
    parts = []
    at = 0
    while at < len(given):
        parts.append(given[at + 1:at + 1 + given[at]])
        at += 1 + given[at]
    assert at == len(given), given
    return parts


def last(text):
    return told(text)[-1]


class Line:
    """A road as the tests know it: had, needed, and price or None of each pit."""

    def __init__(self, step, had, needed, borrow, spoil):
        self.step = step
        self.had = had
        self.needed = needed
        self.borrow = borrow
        self.spoil = spoil
        self.size = len(had)

    def text(self):
        parts = [f"begin {self.size} {self.step}"]
        for i in range(self.size):
            parts += [f"have {i} {self.had[i]}", f"need {i} {self.needed[i]}"]
            parts += [f"borrow {i} {self.borrow[i]}"] * (self.borrow[i] is not None)
            parts += [f"spoil {i} {self.spoil[i]}"] * (self.spoil[i] is not None)
        return ", ".join(parts)

    def looks(self):
        """What the program answers to each look."""
        return dict(zip(LOOKS, told(self.text() + ", " + ", ".join(LOOKS))[-len(LOOKS):]))

    def at_pits(self, flows):
        """For each station what is borrowed, or below 0 what is spoiled."""
        ends = [0, *flows, 0]
        return [ends[i + 1] - ends[i] - self.had[i] + self.needed[i] for i in range(self.size)]

    def cost_of(self, flows):
        """What the way costs, None where it is none."""
        cost = self.step * sum(abs(flow) for flow in flows)
        for i, amount in enumerate(self.at_pits(flows)):
            price = self.borrow[i] if amount > 0 else self.spoil[i]
            if amount != 0 and price is None:
                return None
            cost += abs(amount) * (price or 0)
        return cost

    def search(self, most):
        """The cost and the flows of the cheapest way, the first of like ones, or None."""
        best = None
        for flows in product(range(-most, most + 1), repeat=self.size - 1):
            cost = self.cost_of(flows)
            if cost is not None and (best is None or cost < best[0]):
                best = (cost, list(flows))
        return best

    def units(self, flows):
        """From where each unit comes, and to where each goes, both from the left on."""
        sources = []
        sinks = []
        for i, amount in enumerate(self.at_pits(flows)):
            sources += [i] * (self.had[i] + max(amount, 0))
            sinks += [i] * (self.needed[i] + max(-amount, 0))
        return sources, sinks

    def expected(self, most):
        """What the document asks of each look, by the plain search."""
        best = self.search(most)
        if best is None:
            return dict(can=[0], cost=[-33], flows=[-33], loads=[-33], borrowed=[-33])
        cost, flows = best
        pairs = list(zip(*self.units(flows)))
        loads = [(a, b, pairs.count((a, b))) for a, b in dict.fromkeys(pairs) if a != b]
        borrowed = [max(amount, 0) for amount in self.at_pits(flows)]
        return dict(can=[1], cost=[cost], flows=[len(flows), *flows],
                    loads=[len(loads), *(number for load in loads for number in load)],
                    borrowed=[sum(borrowed), *borrowed])
