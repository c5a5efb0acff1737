"""The looks beside a plain search through all ways, and what the document says that holds."""

import unittest
from itertools import permutations, product
from random import Random

from helper import Line

PRICES = (None, 0, 1, 3, 20, 50)


def random_line(source, size, most_earth, prices=PRICES):
    def row(choices):
        return [source.choice(choices) for station in range(size)]

    return Line(source.choice((1, 2, 3, 10)), row(range(most_earth + 1)), row(range(most_earth + 1)),
                row(prices), row(prices))


def steps_of(loads):
    return sum(abs(loads[k] - loads[k + 1]) * loads[k + 2] for k in range(1, len(loads), 3))


class PlainSearch(unittest.TestCase):
    def check(self, line, most):
        self.assertEqual(line.looks(), line.expected(most), line.text())

    def test_every_small_line_of_two_stations(self):
        pits = (None, 0, 1, 2)
        for step in (1, 2):
            for earth in product((0, 1, 2), repeat=4):
                for prices in product(pits, repeat=4):
                    # A third of them is enough, and each price still meets each amount.
                    if (sum(earth) + sum(price or 0 for price in prices)) % 3 == 0:
                        self.check(Line(step, earth[:2], earth[2:], prices[:2], prices[2:]), 6)

    def test_two_stations_in_the_whole_range(self):
        source = Random(2)
        for turn in range(600):
            self.check(random_line(source, 2, 9), 40)

    def test_three_stations_with_little_earth(self):
        source = Random(3)
        for turn in range(600):
            self.check(random_line(source, 3, 2, (None, 0, 1, 2)), 9)

    def test_three_stations_in_the_whole_range(self):
        source = Random(4)
        for turn in range(60):
            self.check(random_line(source, 3, 9), 30)


class WhatHolds(unittest.TestCase):
    def lines(self, seed, turns):
        source = Random(seed)
        for turn in range(turns):
            yield random_line(source, source.randint(4, 8), 9)

    def test_no_way_near_the_one_told_costs_less_or_is_like_it_and_ahead(self):
        # What a way costs is convex in what is hauled, so a cheaper way would show within one unit at each gap.
        for line in self.lines(5, 25):
            looks = line.looks()
            if looks["can"] == [1]:
                flows = looks["flows"][1:]
                self.assertEqual(line.cost_of(flows), looks["cost"][0], line.text())
                for change in product((-1, 0, 1), repeat=len(flows)):
                    other = [flow + more for flow, more in zip(flows, change)]
                    cost = line.cost_of(other)
                    self.assertTrue(cost is None or (cost, other) >= (looks["cost"][0], flows), line.text())

    def test_a_way_just_if_a_pit_is_where_it_is_wanted(self):
        for line in self.lines(6, 200):
            over = sum(line.had) - sum(line.needed)
            wanted = line.spoil if over > 0 else line.borrow
            can = over == 0 or any(price is not None for price in wanted)
            self.assertEqual(line.looks()["can"], [int(can)], line.text())

    def test_a_pit_more_never_costs_more(self):
        for line in self.lines(7, 60):
            before = line.looks()["cost"][0]
            for pits in (line.borrow, line.spoil):
                for i in range(line.size):
                    if pits[i] is None:
                        pits[i] = 50 if i % 2 else 0
                        after = line.looks()["cost"][0]
                        pits[i] = None
                        self.assertTrue(before == -33 or 0 <= after <= before, line.text())

    def test_loads_make_as_many_steps_as_units_go_past_all_stations(self):
        for line in self.lines(8, 200):
            looks = line.looks()
            if looks["can"] == [1]:
                loads = looks["loads"]
                self.assertEqual(len(loads), 1 + 3 * loads[0])
                self.assertEqual(steps_of(loads), sum(abs(flow) for flow in looks["flows"][1:]), line.text())

    def test_loads_in_the_whole_range(self):
        for line in self.lines(9, 200):
            looks = line.looks()
            if looks["can"] == [1]:
                pairs = list(zip(*line.units(looks["flows"][1:])))
                expected = [(a, b, pairs.count((a, b))) for a, b in dict.fromkeys(pairs) if a != b]
                self.assertEqual(looks["loads"][1:], [number for load in expected for number in load], line.text())
                amounts = [max(amount, 0) for amount in line.at_pits(looks["flows"][1:])]
                self.assertEqual(looks["borrowed"], [sum(amounts), *amounts], line.text())

    def test_no_other_loads_make_fewer_steps(self):
        source = Random(10)
        for turn in range(150):
            line = random_line(source, 4, 1)
            looks = line.looks()
            if looks["can"] == [1]:
                sources, sinks = line.units(looks["flows"][1:])
                fewest = min(sum(abs(a - b) for a, b in zip(sources, other)) for other in permutations(sinks))
                self.assertEqual(steps_of(looks["loads"]), fewest, line.text())


if __name__ == "__main__":
    unittest.main()
