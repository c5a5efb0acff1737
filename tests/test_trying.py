"""Point 2: spoiled, farthest and try, by written answers."""

import unittest

from helper import MOST, last, told

FULL_LINE = "begin 8 10" + "".join(f", have {i} 9" for i in range(8))
SIDE_BY_SIDE = "begin 2 10, have 0 5, need 1 5, spoil 0 1, borrow 1 2"


class Spoiled(unittest.TestCase):
    def check(self, text, spoiled):
        self.assertEqual(last(text + ", spoiled"), spoiled, text)

    def test_nothing_to_spoil(self):
        self.check("begin 2 1", [0, 0, 0])
        self.check("begin 8 10", [0] * 9)
        self.check("begin 3 4, have 0 6, need 2 6", [0, 0, 0, 0])
        self.check("begin 3 1, need 1 2, borrow 0 0, spoil 0 0", [0, 0, 0, 0])

    def test_there_is_no_way(self):
        self.check("begin 2 1, have 0 1", [-33])
        self.check("begin 2 1, have 0 1, borrow 0 0", [-33])
        self.check("begin 2 1, need 0 1, spoil 0 0", [-33])
        self.check("begin 2 1, have 0 1, spoil 0 0, nospoil 0", [-33])

    def test_how_much_in_all_and_at_each_station(self):
        self.check("begin 3 1, have 1 5, need 0 4, spoil 2 3", [1, 0, 0, 1])
        self.check("begin 4 2, have 0 9, have 3 8, need 1 1, spoil 0 1, spoil 3 2", [16, 8, 0, 0, 8])
        self.check("begin 3 10, have 0 3, have 1 4, have 2 5, spoil 0 1, spoil 1 1, spoil 2 1", [12, 3, 4, 5])

    def test_a_pit_dearer_than_hauling_all_the_way(self):
        self.check("begin 8 7, have 0 1, spoil 0 50, spoil 7 0", [1] + [0] * 7 + [1])
        self.check("begin 8 7, have 0 1, spoil 0 48, spoil 7 0", [1, 1] + [0] * 7)

    def test_both_pits_at_one_station(self):
        self.check("begin 2 2, borrow 0 0, spoil 0 0, have 0 3", [3, 3, 0])
        self.check("begin 2 2, borrow 0 0, spoil 0 0, need 0 3", [0, 0, 0])
        self.check("begin 2 2, borrow 0 5, spoil 0 4, have 1 3", [3, 3, 0])

    def test_a_price_of_0(self):
        self.check("begin 2 1, have 0 9, need 1 9, spoil 0 0, borrow 1 0", [9, 9, 0])
        self.check("begin 2 1, borrow 0 0, borrow 1 0, spoil 0 0, spoil 1 0", [0, 0, 0])

    def test_borrowing_and_spoiling_side_by_side(self):
        self.check(SIDE_BY_SIDE, [5, 5, 0])
        self.check(SIDE_BY_SIDE + ", step 3", [5, 5, 0])
        self.check(SIDE_BY_SIDE + ", step 2", [0, 0, 0])

    def test_earth_had_and_needed_at_one_station(self):
        self.check("begin 2 3, have 0 9, need 0 9, spoil 0 0", [0, 0, 0])
        self.check("begin 2 3, have 0 9, need 0 7, spoil 0 0", [2, 2, 0])

    def test_two_ways_alike(self):
        self.check("begin 3 1, have 1 1, spoil 0 2, spoil 2 2", [1, 1, 0, 0])
        self.check("begin 2 2, have 0 3, spoil 0 4, spoil 1 2", [3, 3, 0])
        self.check("begin 2 2, have 1 3, spoil 1 4, spoil 0 2", [3, 3, 0])

    def test_all_that_may_be_spoiled(self):
        self.check(FULL_LINE + ", spoil 7 50", [72] + [0] * 7 + [72])
        self.check(FULL_LINE + ", spoil 0 50", [72, 72] + [0] * 7)


class Farthest(unittest.TestCase):
    def check(self, text, farthest):
        self.assertEqual(last(text + ", farthest"), farthest, text)

    def test_without_loads(self):
        self.check("begin 2 1", [0])
        self.check("begin 8 10", [0])
        self.check("begin 2 3, have 0 9, need 0 9", [0])
        self.check("begin 2 3, have 0 9, spoil 0 50", [0])
        self.check(SIDE_BY_SIDE, [0])

    def test_there_is_no_way(self):
        self.check("begin 2 1, have 0 1", [-33])
        self.check("begin 8 1, need 7 1, spoil 7 0", [-33])

    def test_the_farthest_of_some(self):
        self.check("begin 4 2, have 0 5, need 1 2, have 2 1, need 3 9, borrow 3 6, spoil 0 1", [3])
        self.check("begin 5 1, have 0 1, need 1 1, have 2 1, need 4 1", [2])
        self.check("begin 5 1, have 0 1, need 3 1, have 4 1, need 4 1", [3])

    def test_to_the_right_and_to_the_left(self):
        self.check(SIDE_BY_SIDE + ", step 2", [1])
        self.check("begin 8 7, have 0 1, need 7 1, spoil 0 0, borrow 7 50", [7])
        self.check("begin 8 7, have 0 1, need 7 1, spoil 0 0, borrow 7 48", [0])
        self.check("begin 8 1, have 7 2, need 0 2", [7])
        self.check("begin 4 3, have 3 2, need 0 2", [3])
        self.check("begin 5 1, have 0 1, need 1 1, need 2 1, have 4 1", [2])

    def test_to_a_pit_and_from_one(self):
        self.check("begin 6 1, have 1 1, spoil 5 1", [4])
        self.check("begin 6 1, need 1 1, borrow 5 1", [4])

    def test_loads_that_hand_on(self):
        self.check("begin 3 1, need 0 3, have 1 3, need 1 3, have 2 3", [1])


class TryWay(unittest.TestCase):
    ROAD = "begin 2 3, have 0 5, need 1 5"
    BOTH = "begin 2 10, borrow 0 50, borrow 1 50, spoil 0 50, spoil 1 50"
    EIGHT = "begin 8 1, have 0 2, need 7 2"

    def check(self, text, row, cost):
        self.assertEqual(last(f"{text}, try_way {row}"), cost, (text, row))

    def test_just_what_is_hauled_without_pits(self):
        self.check(self.ROAD, "77", [15])
        for row in ("0", "67", "72", "76", "78", "144"):
            self.check(self.ROAD, row, [-33])

    def test_what_it_costs_with_pits(self):
        text = self.ROAD + ", spoil 0 2, borrow 1 4"
        for row, cost in (("77", 15), ("74", 24), ("72", 30), ("71", 39), ("78", -33)):
            self.check(text, row, [cost])
        self.check(text + ", borrow 0 50", "78", [-33])
        self.check(text + ", borrow 0 50, spoil 1 1", "78", [69])

    def test_more_stations(self):
        text = "begin 4 2, have 0 5, need 1 2, have 2 1, need 3 9, borrow 3 6, spoil 0 1"
        self.check(text, "77 75 76", [54])
        self.check(text, "76 74 75", [55])
        self.check(text, "77 75 75", [-33])
        self.check(text, "77 76 76", [-33])
        self.check(self.EIGHT, "74 74 74 74 74 74 74", [14])
        self.check(self.EIGHT, "74 74 74 74 74 74 73", [-33])

    def test_a_way_to_the_left(self):
        self.check("begin 3 4, have 2 3, need 0 3", "69 69", [24])
        self.check("begin 3 4, have 2 3, need 0 3", "75 75", [-33])
        self.check("begin 3 4, have 1 4, need 0 3, need 2 1", "69 73", [16])

    def test_both_pits_at_one_station(self):
        text = "begin 2 2, borrow 0 5, spoil 0 4"
        self.check(text, "72", [0])
        self.check(text, "73", [-33])
        self.check(text + ", need 1 3", "75", [21])
        self.check(text + ", have 1 3", "69", [18])

    def test_a_price_of_0(self):
        text = "begin 2 1, have 0 9, need 1 9, spoil 0 0, borrow 1 0"
        self.check(text, "72", [0])
        self.check(text, "80", [8])
        self.check(text, "81", [9])

    def test_earth_had_and_needed_at_one_station(self):
        self.check("begin 2 3, have 0 9, need 0 9", "72", [0])
        self.check("begin 2 3, have 0 9, need 0 9", "81", [-33])

    def test_side_by_side_and_hauled(self):
        self.check(SIDE_BY_SIDE, "72", [15])
        self.check(SIDE_BY_SIDE, "77", [50])
        self.check(SIDE_BY_SIDE, "74", [29])

    def test_two_ways_alike(self):
        self.check("begin 3 1, have 1 1, spoil 0 2, spoil 2 2", "71 72", [3])
        self.check("begin 3 1, have 1 1, spoil 0 2, spoil 2 2", "72 73", [3])

    def test_the_ends_of_the_range(self):
        self.check(self.BOTH, "0", [7920])
        self.check(self.BOTH, "144", [7920])
        self.check(self.BOTH, "72", [0])
        for row in ("145", "146", "260", "65535"):
            self.check(self.BOTH, row, [-22])
        eight = "begin 8 10" + "".join(f", borrow {i} 50, spoil {i} 50" for i in range(8))
        self.check(eight, "144 0 144 0 144 0 144", [55440])

    def test_one_number_out_of_range_anywhere(self):
        for place in range(7):
            for wrong in ("145", "65535"):
                row = ["74"] * 7
                row[place] = wrong
                self.check(self.EIGHT, " ".join(row), [-22])

    def test_not_a_number_for_each_gap(self):
        for n in range(2, 9):
            text = f"begin {n} 1"
            for size in range(41):
                self.check(text, " ".join(["72"] * size), [0] if size == n - 1 else [-22])
        self.check("begin 2 1", " ".join(["65535"] * 40), [-22])
        self.check("begin 2 1", "", [-22])

    def test_out_of_range_comes_first(self):
        for text in ("begin 2 1, have 0 1", "begin 2 1, need 1 1, spoil 0 0"):
            self.check(text, "72", [-33])
            self.check(text, "73", [-33])
            for row in ("", "145", "65535", "72 72", " ".join(["72"] * 40)):
                self.check(text, row, [-22])

    def test_what_is_told_later_counts(self):
        self.assertEqual(told("begin 2 3, try_way 72, have 0 1, try_way 72, need 1 1, try_way 73, step 9, try_way 73, "
                              f"spoil 0 2, borrow 1 3, try_way 72, noborrow 1, try_way 72, have {MOST} 0, begin 3 1, "
                              "try_way 72, try_way 72 72")[1:],
                         [[0], [0], [-33], [0], [3], [3], [9], [0], [0], [5], [3], [-33], [-2], [0], [-22], [0]])


if __name__ == "__main__":
    unittest.main()
