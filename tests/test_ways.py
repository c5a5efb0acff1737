"""Point 2: can, cost, flows, loads and borrowed, by written answers."""

import unittest

from helper import told

LOOKS = ("can", "cost", "flows", "loads", "borrowed")


class Ways(unittest.TestCase):
    def check(self, text, can, cost, flows, loads, borrowed):
        found = told(text + ", " + ", ".join(LOOKS))[-len(LOOKS):]
        self.assertEqual(found, [can, cost, flows, loads, borrowed], text)

    def check_none(self, text):
        self.check(text, [0], [-33], [-33], [-33], [-33])

    def test_an_ordinary_road(self):
        self.check("begin 4 2, have 0 5, need 1 2, have 2 1, need 3 9, borrow 3 6, spoil 0 1",
                   [1], [54], [3, 5, 3, 4], [3, 0, 1, 2, 0, 3, 3, 2, 3, 1], [5, 0, 0, 0, 5])

    def test_nothing_told(self):
        self.check("begin 2 1", [1], [0], [1, 0], [0], [0, 0, 0])
        self.check("begin 8 10", [1], [0], [7] + [0] * 7, [0], [0] * 9)

    def test_as_much_had_as_needed_and_no_pits(self):
        self.check("begin 3 4, have 0 6, need 2 6", [1], [48], [2, 6, 6], [1, 0, 2, 6], [0, 0, 0, 0])

    def test_more_had_than_needed(self):
        text = "begin 3 1, have 1 5, need 0 4"
        self.check_none(text)
        self.check_none(text + ", borrow 0 0, borrow 1 0, borrow 2 0")
        self.check(text + ", spoil 2 3", [1], [8], [2, -4, 1], [2, 1, 0, 4, 1, 2, 1], [0, 0, 0, 0])
        self.check_none(text + ", spoil 2 3, nospoil 2")

    def test_less_had_than_needed(self):
        text = "begin 3 1, have 1 4, need 0 5"
        self.check_none(text)
        self.check_none(text + ", spoil 0 0, spoil 1 0, spoil 2 0")
        self.check(text + ", borrow 2 3", [1], [9], [2, -5, -1], [2, 1, 0, 4, 2, 0, 1], [1, 0, 0, 1])
        self.check_none(text + ", borrow 2 3, noborrow 2")

    def test_a_pit_dearer_than_hauling_all_the_way(self):
        self.check("begin 8 7, have 0 1, need 7 1, spoil 0 0, borrow 7 50",
                   [1], [49], [7] + [1] * 7, [1, 0, 7, 1], [0] * 9)
        self.check("begin 8 7, have 0 1, need 7 1, spoil 0 0, borrow 7 48",
                   [1], [48], [7] + [0] * 7, [0], [1] + [0] * 7 + [1])
        self.check("begin 2 1, have 0 2, spoil 0 3, spoil 1 1", [1], [4], [1, 2], [1, 0, 1, 2], [0, 0, 0])

    def test_both_pits_at_one_station(self):
        self.check("begin 2 2, borrow 0 0, spoil 0 0, have 0 3", [1], [0], [1, 0], [0], [0, 0, 0])
        self.check("begin 2 2, borrow 0 0, spoil 0 0, need 0 3", [1], [0], [1, 0], [0], [3, 3, 0])
        self.check("begin 2 2, borrow 0 5, spoil 0 4, need 1 3", [1], [21], [1, 3], [1, 0, 1, 3], [3, 3, 0])
        self.check("begin 2 2, borrow 0 5, spoil 0 4, have 1 3", [1], [18], [1, -3], [1, 1, 0, 3], [0, 0, 0])

    def test_a_price_of_0(self):
        self.check("begin 2 1, have 0 9, need 1 9, spoil 0 0, borrow 1 0", [1], [0], [1, 0], [0], [9, 0, 9])
        self.check("begin 2 1, borrow 0 0, borrow 1 0, spoil 0 0, spoil 1 0", [1], [0], [1, 0], [0], [0, 0, 0])
        self.check("begin 3 1, need 1 2, borrow 0 0, borrow 2 1", [1], [2], [2, 2, 0], [1, 0, 1, 2], [2, 2, 0, 0])

    def test_borrowing_and_spoiling_side_by_side(self):
        text = "begin 2 10, have 0 5, need 1 5, spoil 0 1, borrow 1 2"
        self.check(text, [1], [15], [1, 0], [0], [5, 0, 5])
        self.check(text + ", step 3", [1], [15], [1, 0], [0], [5, 0, 5])
        self.check(text + ", step 2", [1], [10], [1, 5], [1, 0, 1, 5], [0, 0, 0])

    def test_earth_had_and_needed_at_one_station(self):
        self.check("begin 2 3, have 0 9, need 0 9", [1], [0], [1, 0], [0], [0, 0, 0])
        self.check("begin 2 3, have 0 9, need 0 7, need 1 2", [1], [6], [1, 2], [1, 0, 1, 2], [0, 0, 0])
        self.check("begin 3 1, need 0 3, have 1 3, need 1 3, have 2 3",
                   [1], [6], [2, -3, -3], [2, 1, 0, 3, 2, 1, 3], [0, 0, 0, 0])

    def test_two_ways_alike(self):
        self.check("begin 3 1, have 1 1, spoil 0 2, spoil 2 2", [1], [3], [2, -1, 0], [1, 1, 0, 1], [0, 0, 0, 0])
        self.check("begin 3 1, need 1 1, borrow 0 2, borrow 2 2", [1], [3], [2, 0, -1], [1, 2, 1, 1], [1, 0, 0, 1])
        self.check("begin 2 2, have 0 3, spoil 0 4, spoil 1 2", [1], [12], [1, 0], [0], [0, 0, 0])
        self.check("begin 2 2, have 1 3, spoil 1 4, spoil 0 2", [1], [12], [1, -3], [1, 1, 0, 3], [0, 0, 0])
        self.check("begin 3 1, have 0 1, spoil 1 3, spoil 2 2", [1], [4], [2, 1, 0], [1, 0, 1, 1], [0, 0, 0, 0])

    def test_only_two_stations(self):
        self.check("begin 2 5, have 0 9, need 1 4, spoil 1 50", [1], [295], [1, 9], [1, 0, 1, 9], [0, 0, 0])
        self.check("begin 2 5, need 0 9, have 1 4, borrow 1 50", [1], [295], [1, -9], [1, 1, 0, 9], [5, 0, 5])

    def test_a_way_to_the_left(self):
        self.check("begin 4 3, have 3 2, need 0 2", [1], [18], [3, -2, -2, -2], [1, 3, 0, 2], [0] * 5)
        self.check("begin 3 1, have 0 1, need 1 2, have 2 1", [1], [2], [2, 1, -1],
                   [2, 0, 1, 1, 2, 1, 1], [0, 0, 0, 0])

    def test_the_most_that_may_go_past_a_station(self):
        full = "begin 8 10" + "".join(f", have {i} 9" for i in range(8))
        right = [number for i in range(7) for number in (i, 7, 9)]
        left = [number for i in range(1, 8) for number in (i, 0, 9)]
        self.check(full + ", spoil 7 50", [1], [6120], [7, 9, 18, 27, 36, 45, 54, 63], [7] + right, [0] * 9)
        self.check(full + ", spoil 0 50", [1], [6120], [7, -63, -54, -45, -36, -27, -18, -9], [7] + left, [0] * 9)

    def test_all_that_may_be_borrowed(self):
        full = "begin 8 10" + "".join(f", need {i} 9" for i in range(8))
        right = [number for i in range(1, 8) for number in (0, i, 9)]
        left = [number for i in range(7) for number in (7, i, 9)]
        self.check(full + ", borrow 0 50", [1], [6120], [7, 63, 54, 45, 36, 27, 18, 9], [7] + right,
                   [72, 72] + [0] * 7)
        self.check(full + ", borrow 7 50", [1], [6120], [7, -9, -18, -27, -36, -45, -54, -63], [7] + left,
                   [72] + [0] * 7 + [72])

    def test_what_is_told_later_counts(self):
        self.check("begin 2 1, have 0 1, need 1 1, step 9", [1], [9], [1, 1], [1, 0, 1, 1], [0, 0, 0])
        self.check("begin 2 1, have 0 9, need 1 1, have 0 1", [1], [1], [1, 1], [1, 0, 1, 1], [0, 0, 0])
        self.check("begin 2 1, need 1 2, borrow 1 9, borrow 1 3", [1], [6], [1, 0], [0], [2, 0, 2])


if __name__ == "__main__":
    unittest.main()
