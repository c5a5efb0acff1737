"""Point 3: prices and bound, by written answers."""

import unittest

from helper import last, told

SIDE_BY_SIDE = "begin 2 10, have 0 5, need 1 5, spoil 0 1, borrow 1 2"


class Prices(unittest.TestCase):
    def check(self, text, *row):
        """The row is told, allowed, and says what the cheapest way costs."""
        found, cost = told(text + ", prices, cost")[-2:]
        self.assertEqual(found, [len(row), *row], text)
        numbers = " ".join(str(price + 130) for price in row)
        self.assertEqual(last(f"{text}, bound {numbers}"), [0, *cost], text)

    def test_there_is_no_way(self):
        for text in ("begin 2 1, have 0 1", "begin 2 1, have 0 1, borrow 0 0", "begin 3 1, need 2 1, spoil 1 1",
                     "begin 8 1, need 2 1", "begin 2 1, need 0 1, borrow 0 2, noborrow 0"):
            self.assertEqual(last(text + ", prices"), [-33])

    def test_rows_that_may_all_be_raised_alike(self):
        self.check("begin 2 1", 0, -1)
        self.check("begin 8 10", 0, -10, -20, -30, -40, -50, -60, -70)
        self.check("begin 3 4, have 0 6, need 2 6", 0, 4, 8)
        self.check("begin 2 1, have 0 1, need 1 1", 0, 1)
        self.check("begin 2 1, have 0 1, need 1 1, borrow 0 50", 0, 1)
        self.check("begin 2 1, have 0 1, need 1 1, borrow 1 50, spoil 0 50", 0, 1)

    def test_raised_no_farther_than_the_pits_allow(self):
        self.check("begin 2 1, have 0 1, need 1 1, borrow 1 0", -1, 0)
        self.check("begin 2 1, need 0 1, have 1 1, spoil 1 0", 1, 0)
        self.check("begin 3 5, have 0 1, need 2 1, borrow 2 3", -7, -2, 3)
        self.check("begin 3 5, need 0 1, have 2 1, spoil 2 3", 7, 2, -3)

    def test_a_way_to_the_left(self):
        self.check("begin 4 3, have 3 2, need 0 2", 0, -3, -6, -9)
        self.check("begin 3 1, have 0 1, need 1 2, have 2 1", 0, 1, 0)

    def test_more_had_than_needed(self):
        self.check("begin 3 1, have 1 5, need 0 4, spoil 2 3", -3, -4, -3)

    def test_less_had_than_needed(self):
        self.check("begin 3 1, have 1 4, need 0 5, borrow 2 3", 5, 4, 3)

    def test_both_pits_at_one_station(self):
        self.check("begin 2 2, borrow 0 5, spoil 0 4, need 1 3", 5, 7)
        self.check("begin 2 2, borrow 0 5, spoil 0 4, have 1 3", -4, -6)
        self.check("begin 2 2, borrow 0 5, spoil 0 4", 0, -2)
        self.check("begin 2 2, borrow 1 0, spoil 1 0", 0, 0)
        self.check("begin 2 2, borrow 1 0, spoil 1 0, have 0 2", -2, 0)

    def test_a_price_of_0(self):
        self.check("begin 2 1, have 0 9, need 1 9, spoil 0 0, borrow 1 0", 0, 0)
        self.check("begin 3 1, need 1 2, borrow 0 0, borrow 2 1", 0, 1, 0)

    def test_borrowing_and_spoiling_side_by_side(self):
        self.check(SIDE_BY_SIDE, -1, 2)
        self.check(SIDE_BY_SIDE + ", step 3", -1, 2)
        self.check(SIDE_BY_SIDE + ", step 2", 0, 2)

    def test_a_pit_dearer_than_hauling_all_the_way(self):
        self.check("begin 2 1, have 0 2, spoil 0 3, spoil 1 1", -2, -1)
        self.check("begin 2 1, have 0 2, spoil 0 2, spoil 1 1", -2, -1)
        self.check("begin 2 1, have 0 2, spoil 0 1, spoil 1 1", -1, -1)
        self.check("begin 2 3, have 0 2, spoil 0 1, spoil 1 1", -1, -1)
        self.check("begin 2 3, have 0 2, spoil 0 1, spoil 1 9", -1, -4)

    def test_earth_had_and_needed_at_one_station(self):
        self.check("begin 2 3, have 0 9, need 0 9", 0, -3)
        self.check("begin 2 3, have 0 9, need 0 7, need 1 2", 0, 3)

    def test_two_ways_alike(self):
        self.check("begin 3 1, have 1 1, spoil 0 2, spoil 2 2", -2, -3, -2)
        self.check("begin 2 2, have 0 3, spoil 0 4, spoil 1 2", -4, -2)

    def test_the_farthest_from_0(self):
        self.check("begin 8 10, have 0 9, spoil 7 50", -120, -110, -100, -90, -80, -70, -60, -50)
        self.check("begin 8 10, need 0 9, borrow 7 50", 120, 110, 100, 90, 80, 70, 60, 50)
        self.check("begin 8 10, have 6 1, spoil 0 50", -50, -60, -70, -80, -90, -100, -110, -120)
        self.check("begin 8 10, need 7 1, borrow 0 50", 50, 60, 70, 80, 90, 100, 110, 120)

    def test_what_is_told_later_counts(self):
        self.assertEqual(told("begin 2 1, prices, step 4, prices, have 0 1, prices, need 1 1, prices, "
                              "spoil 0 0, borrow 1 2, prices, begin 3 1, prices")[1:],
                         [[2, 0, -1], [1], [2, 0, -4], [0], [-33], [0], [2, 0, 4], [0], [0], [2, 0, 2], [0],
                          [3, 0, -1, -2]])


class Bound(unittest.TestCase):
    ROAD = "begin 2 3, have 0 5, need 1 5"
    EIGHT = "begin 8 1, have 0 2, need 7 2"

    def check(self, text, row, *said):
        self.assertEqual(last(f"{text}, bound {row}"), list(said), (text, row))

    def test_what_it_says(self):
        self.check(self.ROAD, "130 133", 0, 15)
        self.check(self.ROAD, "130 130", 0, 0)
        self.check(self.ROAD, "133 130", 0, -15)
        self.check(self.ROAD, "230 231", 0, 5)
        self.check(self.EIGHT, "130 131 132 133 134 135 136 137", 0, 14)
        self.check(self.EIGHT, "137 136 135 134 133 132 131 130", 0, -14)

    def test_no_more_than_a_step_to_either_side(self):
        self.check(self.ROAD, "130 134", -33)
        self.check(self.ROAD, "134 130", -33)
        self.check(self.ROAD + ", step 4", "130 134", 0, 20)
        self.check(self.ROAD + ", step 4", "134 130", 0, -20)
        for gap in range(7):
            row = ["130"] * (gap + 1) + ["132"] * (7 - gap)
            self.check(self.EIGHT, " ".join(row), -33)
            self.check(self.EIGHT, " ".join(reversed(row)), -33)

    def test_no_more_than_the_price_to_borrow(self):
        for i in range(2):
            for price in (0, 7, 50):
                text = f"begin 2 1, borrow {i} {price}"
                self.check(text, f"{130 + price} {130 + price}", 0, 0)
                self.check(text, f"{131 + price} {131 + price}", -33)
                self.check(text, "0 0", 0, 0)

    def test_no_less_than_0_less_the_price_to_spoil(self):
        for i in range(2):
            for price in (0, 7, 50):
                text = f"begin 2 1, spoil {i} {price}"
                self.check(text, f"{130 - price} {130 - price}", 0, 0)
                self.check(text, f"{129 - price} {129 - price}", -33)
                self.check(text, "260 260", 0, 0)

    def test_a_pit_counts_at_its_station_alone(self):
        text = "begin 3 2, borrow 1 4, spoil 2 3"
        self.check(text, "136 134 132", 0, 0)
        self.check(text, "136 135 133", -33)
        self.check(text, "123 125 127", 0, 0)
        self.check(text, "123 125 126", -33)
        self.check(text + ", noborrow 1", "136 135 133", 0, 0)
        self.check(text + ", nospoil 2", "123 125 126", 0, 0)

    def test_both_pits_at_one_station(self):
        text = "begin 2 5, borrow 0 4, spoil 0 2, have 0 3"
        for price in range(-4, 7):
            said = [0, -3 * price] if -2 <= price <= 4 else [-33]
            self.check(text, f"{130 + price} 130", *said)
        self.check("begin 2 1, borrow 0 0, spoil 0 0", "130 130", 0, 0)
        self.check("begin 2 1, borrow 0 0, spoil 0 0", "131 130", -33)
        self.check("begin 2 1, borrow 0 0, spoil 0 0", "129 130", -33)

    def test_where_there_is_no_way(self):
        text = "begin 2 1, have 0 4"
        self.assertEqual(last(text + ", can"), [0])
        self.check(text, "130 130", 0, 0)
        self.check(text, "0 0", 0, 520)
        self.check(text, "260 260", 0, -520)
        self.check(text, "130 132", -33)

    def test_the_ends_of_the_range(self):
        text = "begin 2 10, have 0 9"
        self.check(text, "0 0", 0, 1170)
        self.check(text, "260 260", 0, -1170)
        for row in ("261 260", "260 261", "261 261", "65535 65535", "130 65535", "65535 130"):
            self.check(text, row, -22)
        full = "begin 8 10" + "".join(f", need {i} 9" for i in range(8))
        self.check(full, " ".join(["260"] * 8), 0, 9360)
        self.check(full, " ".join(["0"] * 8), 0, -9360)

    def test_one_number_out_of_range_anywhere(self):
        for place in range(8):
            for wrong in ("261", "65535"):
                row = ["260"] * 8
                row[place] = wrong
                self.check(self.EIGHT, " ".join(row), -22)

    def test_not_a_number_for_each_station(self):
        for n in range(2, 9):
            for size in range(41):
                self.check(f"begin {n} 1", " ".join(["130"] * size), *([0, 0] if size == n else [-22]))
        self.check("begin 2 1", "", -22)
        self.check("begin 2 1", " ".join(["65535"] * 40), -22)

    def test_out_of_range_comes_first(self):
        text = self.ROAD + ", borrow 0 0, spoil 0 0"
        for row in ("0 260", "200 200"):
            self.check(text, row, -33)
        for row in ("0 261", "261 0", "200", "0 260 0", "200 200 200", "0 65535"):
            self.check(text, row, -22)


if __name__ == "__main__":
    unittest.main()
