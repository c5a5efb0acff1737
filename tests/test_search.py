"""The answers beside plain searches through all ways and rows of prices, and what the document says that holds."""

import unittest
from itertools import permutations, product
from random import Random

from helper import Line, written

PRICES = (None, 0, 1, 3, 20, 50)


def random_line(source, size, most_earth, prices=PRICES):
    def row(choices):
        return [source.choice(choices) for station in range(size)]

    return Line(source.choice((1, 2, 3, 10)), row(range(most_earth + 1)), row(range(most_earth + 1)),
                row(prices), row(prices))


def steps_of(loads):
    return sum(abs(loads[k] - loads[k + 1]) * loads[k + 2] for k in range(1, len(loads), 3))


class PlainSearch(unittest.TestCase):
    def check(self, line, most):
        looks = line.looks()
        looks.pop("prices")
        self.assertEqual(looks, line.expected(most), line.text())

    def test_every_small_line_of_two_stations(self):
        pits = (None, 0, 1, 2)
        for step in (1, 2):
            for earth in product((0, 1, 2), repeat=4):
                for prices in product(pits, repeat=4):
                    # A third of them is enough, and each price still meets each amount.
                    if (sum(earth) + sum(price or 0 for price in prices)) % 3 == 0:
                        self.check(Line(step, earth[:2], earth[2:], prices[:2], prices[2:]), 6)

    def test_two_stations_in_the_whole_range(self):
        source = Random(2)
        for turn in range(600):
            self.check(random_line(source, 2, 9), 40)

    def test_three_stations_with_little_earth(self):
        source = Random(3)
        for turn in range(600):
            self.check(random_line(source, 3, 2, (None, 0, 1, 2)), 9)

    def test_three_stations_in_the_whole_range(self):
        source = Random(4)
        for turn in range(60):
            self.check(random_line(source, 3, 9), 30)


class PlainSearchOfWhatWouldBe(unittest.TestCase):
    def check(self, line, most, prices):
        stations = range(line.size)
        calls = [f"ifstep {t}" for t in range(1, 11)] + [f"without {i}" for i in stations]
        expected = [[line.with_step(t).least(most)] for t in range(1, 11)]
        expected += [[line.without(i).least(most)] for i in stations]
        for price in prices:
            costs = [line.with_pit(i, price).least(most) for i in stations]
            calls += [f"ifpit {i} {price}" for i in stations] + [f"bestpit {price}"]
            best = [-33] if max(costs) == -33 else [costs.index(min(costs)), min(costs)]
            expected += [[cost] for cost in costs] + [best]
        self.assertEqual(line.ask(calls), expected, line.text())

    def test_two_stations_in_the_whole_range(self):
        source = Random(20)
        for turn in range(150):
            self.check(random_line(source, 2, 9), 40, (0, 1, 7, 50))

    def test_three_stations_with_little_earth(self):
        source = Random(21)
        for turn in range(60):
            self.check(random_line(source, 3, 2, (None, None, 0, 1, 2, 5)), 9, (0, 1, 3, 50))


class EveryWay(unittest.TestCase):
    def check(self, line, rows):
        cost = line.ask(["cost"])[0][0]
        given = line.ask([written("try_way", row, 72) for row in rows])
        for row, found in zip(rows, given):
            expected = line.cost_of(row)
            self.assertEqual(found, [-33 if expected is None else expected], (row, line.text()))
            self.assertTrue(found[0] == -33 or 0 <= cost <= found[0], (row, line.text()))
        # Past a gap go never more than 72, so that the cheapest is among them all.
        self.assertEqual(cost, min([found[0] for found in given if found[0] != -33], default=-33), line.text())

    def test_every_way_of_two_stations(self):
        source = Random(22)
        for turn in range(120):
            self.check(random_line(source, 2, 9), [(x,) for x in range(-72, 73)])

    def test_every_way_of_three_stations(self):
        source = Random(23)
        rows = list(product(range(-72, 73), repeat=2))
        for turn in range(3):
            self.check(random_line(source, 3, 9), rows)

    def test_ways_of_three_stations_with_little_earth(self):
        source = Random(24)
        rows = list(product(range(-9, 10), repeat=2))
        for turn in range(60):
            self.check(random_line(source, 3, 2, (None, 0, 1, 2)), rows)


class EveryRow(unittest.TestCase):
    def check(self, line):
        rows = line.rows()
        looks = line.looks()
        best = min(rows, key=line.order)
        if looks["can"] == [1]:
            self.assertEqual(looks["prices"], [line.size, *best], line.text())
            self.assertEqual(looks["cost"], [line.says(best)], line.text())
        else:
            self.assertEqual(looks["prices"], [-33], line.text())

    def test_the_rows_searched_are_all_that_are_allowed(self):
        source = Random(25)
        for turn in range(4):
            line = random_line(source, 2, 9)
            allowed = [row for row in product(range(-130, 131), repeat=2) if line.allows(row)]
            self.assertEqual(line.rows(), allowed)

    def test_two_stations_in_the_whole_range(self):
        source = Random(26)
        for turn in range(250):
            self.check(random_line(source, 2, 9))

    def test_two_stations_with_as_much_had_as_needed(self):
        source = Random(27)
        for turn in range(120):
            line = random_line(source, 2, 9, (None, None, 0, 4))
            line.needed = line.had[::-1]
            self.check(line)

    def test_three_stations(self):
        source = Random(28)
        for turn in range(120):
            line = random_line(source, 3, 3, (None, None, 0, 1, 2, 50))
            line.step = source.choice((1, 2, 3))
            self.check(line)

    def test_what_each_row_says(self):
        source = Random(29)
        for turn in range(40):
            line = random_line(source, 2, 9)
            rows = [[source.randint(-130, 130)] for row in range(150)]
            for row in rows:
                row.append(min(max(row[0] + source.randint(-line.step - 1, line.step + 1), -130), 130))
            for row, found in zip(rows, line.ask([written("bound", row, 130) for row in rows])):
                expected = [0, line.says(row)] if line.allows(row) else [-33]
                self.assertEqual(found, expected, (row, line.text()))


class WhatHolds(unittest.TestCase):
    def lines(self, seed, turns, fewest=4):
        source = Random(seed)
        for turn in range(turns):
            yield random_line(source, source.randint(fewest, 8), 9)

    def test_no_way_near_the_one_told_costs_less_or_is_like_it_and_ahead(self):
        # What a way costs is convex in what is hauled, so a cheaper way would show within one unit at each gap.
        for line in self.lines(5, 25):
            looks = line.looks()
            if looks["can"] == [1]:
                flows = looks["flows"][1:]
                self.assertEqual(line.cost_of(flows), looks["cost"][0], line.text())
                for change in product((-1, 0, 1), repeat=len(flows)):
                    other = [flow + more for flow, more in zip(flows, change)]
                    cost = line.cost_of(other)
                    self.assertTrue(cost is None or (cost, other) >= (looks["cost"][0], flows), line.text())

    def test_a_way_just_if_a_pit_is_where_it_is_wanted(self):
        for line in self.lines(6, 200):
            over = sum(line.had) - sum(line.needed)
            wanted = line.spoil if over > 0 else line.borrow
            can = over == 0 or any(price is not None for price in wanted)
            self.assertEqual(line.looks()["can"], [int(can)], line.text())

    def test_a_pit_more_never_costs_more(self):
        for line in self.lines(7, 60):
            before = line.looks()["cost"][0]
            for pits in (line.borrow, line.spoil):
                for i in range(line.size):
                    if pits[i] is None:
                        pits[i] = 50 if i % 2 else 0
                        after = line.looks()["cost"][0]
                        pits[i] = None
                        self.assertTrue(before == -33 or 0 <= after <= before, line.text())

    def test_a_pit_that_would_be_never_costs_more_and_one_less_never_costs_less(self):
        for line in self.lines(16, 60):
            before = line.ask(["cost"])[0][0]
            for i in range(line.size):
                if line.borrow[i] is None:
                    for found in line.ask([f"ifpit {i} 0", f"ifpit {i} 50"]):
                        self.assertTrue(before == -33 or 0 <= found[0] <= before, line.text())
                fewer = line.ask([f"without {i}"])[0][0]
                self.assertTrue(fewer == -33 or 0 <= before <= fewer, line.text())

    def test_loads_make_as_many_steps_as_units_go_past_all_stations(self):
        for line in self.lines(8, 200):
            looks = line.looks()
            if looks["can"] == [1]:
                loads = looks["loads"]
                self.assertEqual(len(loads), 1 + 3 * loads[0])
                self.assertEqual(steps_of(loads), sum(abs(flow) for flow in looks["flows"][1:]), line.text())

    def test_what_is_told_of_the_way_in_the_whole_range(self):
        for line in self.lines(9, 200):
            looks = line.looks()
            if looks["can"] == [1]:
                expected = line.expected_of(looks["flows"][1:])
                self.assertEqual({name: looks[name] for name in expected}, expected, line.text())

    def test_no_other_loads_make_fewer_steps(self):
        source = Random(10)
        for turn in range(150):
            line = random_line(source, 4, 1)
            looks = line.looks()
            if looks["can"] == [1]:
                sources, sinks = line.units(looks["flows"][1:])
                fewest = min(sum(abs(a - b) for a, b in zip(sources, other)) for other in permutations(sinks))
                self.assertEqual(steps_of(looks["loads"]), fewest, line.text())

    def test_the_row_told_says_just_what_the_cheapest_way_costs(self):
        for line in self.lines(11, 300, 2):
            looks = line.looks()
            if looks["can"] == [1]:
                row = looks["prices"][1:]
                self.assertEqual(looks["prices"][0], line.size)
                self.assertEqual(len(row), line.size)
                self.assertTrue(line.allows(row), line.text())
                self.assertTrue(-130 <= min(row) and max(row) <= 130, line.text())
                self.assertEqual(line.says(row), looks["cost"][0], line.text())
                self.assertEqual(line.ask([written("bound", row, 130)]), [[0, looks["cost"][0]]])

    def test_of_rows_that_say_as_much_the_first_is_told(self):
        # Halfway between two such rows, rounded down or up, lies another one: so one that is ahead
        # would show also among those that are less, or more, by no more than one anywhere.
        for line in self.lines(12, 120, 2):
            looks = line.looks()
            if looks["can"] == [1]:
                row = looks["prices"][1:]
                for change in (-1, 1):
                    for by in product((0, change), repeat=line.size):
                        other = [price + more for price, more in zip(row, by)]
                        if line.allows(other):
                            self.assertLessEqual(line.order(row), line.order(other), line.text())

    def test_no_row_that_is_allowed_says_more_than_a_way_costs(self):
        source = Random(13)
        for line in self.lines(14, 60, 2):
            least = max([-price for price in line.spoil if price is not None], default=-130)
            most = min([price for price in line.borrow if price is not None], default=130)
            rows = []
            for turn in range(30):
                row = [source.randint(-60, 60)]
                for i in range(1, line.size):
                    row.append(row[-1] + source.randint(-line.step, line.step))
                rows.append([min(max(price, least), most) for price in row])
            cost = line.ask(["cost"])[0][0]
            for row, found in zip(rows, line.ask([written("bound", row, 130) for row in rows])):
                self.assertEqual(found, [0, line.says(row)], line.text())
                self.assertTrue(cost == -33 or found[1] <= cost, line.text())

    def test_what_would_be_is_what_is_once_it_is_told(self):
        for line in self.lines(15, 60):
            calls = ["ifstep 1", "ifstep 10", "ifpit 0 0", "ifpit 2 17", f"ifpit {line.size - 1} 50",
                     "without 0", f"without {line.size - 1}", "cost"]
            given = line.ask(calls)
            others = [line.with_step(1), line.with_step(10), line.with_pit(0, 0), line.with_pit(2, 17),
                      line.with_pit(line.size - 1, 50), line.without(0), line.without(line.size - 1), line]
            self.assertEqual(given, [other.ask(["cost"])[0] for other in others], line.text())
            for price in (0, 20, 50):
                costs = [line.with_pit(i, price).ask(["cost"])[0][0] for i in range(line.size)]
                best = [-33] if max(costs) == -33 else [costs.index(min(costs)), min(costs)]
                self.assertEqual(line.ask([f"bestpit {price}"]), [best], line.text())


if __name__ == "__main__":
    unittest.main()
