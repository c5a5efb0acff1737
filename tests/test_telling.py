"""Point 5: station, sums and state, by written answers."""

import unittest

from helper import FULL, MOST, last, told


class Station(unittest.TestCase):
    def test_nothing_told_of_it(self):
        for n in range(2, 9):
            for i in range(n):
                self.assertEqual(last(f"begin {n} 3, station {i}"), [0, 0, 0, 0])

    def test_no_such_station(self):
        for n in range(2, 9):
            for i in (n, n + 1, 9, 65536, MOST):
                self.assertEqual(last(f"begin {n} 3, station {i}"), [-2])

    def test_each_of_the_four(self):
        self.assertEqual(told(FULL + ", station 0, station 1")[-2:], [[5, 1, 5, 8], [2, 8, 41, 10]])
        self.assertEqual(told("begin 3 1, have 2 9, station 2, need 2 8, station 2, borrow 2 0, station 2, "
                              "spoil 2 50, station 2, noborrow 2, station 2, nospoil 2, station 2")[2::2],
                         [[9, 0, 0, 0], [9, 8, 0, 0], [9, 8, 1, 0], [9, 8, 1, 51], [9, 8, 0, 51], [9, 8, 0, 0]])

    def test_what_is_told_of_another_does_not_count(self):
        text = "begin 3 1, have 0 1, need 0 2, borrow 2 3, spoil 2 4"
        self.assertEqual(told(text + ", station 1, station 0, station 2")[-3:],
                         [[0, 0, 0, 0], [1, 2, 0, 0], [0, 0, 4, 5]])

    def test_where_there_is_no_way(self):
        self.assertEqual(told("begin 2 1, have 0 4, station 0, sums, state")[-3:],
                         [[4, 0, 0, 0], [0, 4, 0], [0, 2, 1, 0, 0]])


class Sums(unittest.TestCase):
    def test_nothing_told(self):
        for n in range(2, 9):
            self.assertEqual(last(f"begin {n} 3, sums"), [0, 0, 0])

    def test_had_and_needed_in_all(self):
        self.assertEqual(last(FULL + ", sums"), [0, 7, 9])
        self.assertEqual(last("begin 3 1, have 0 3, have 2 4, need 2 4, sums"), [0, 7, 4])
        self.assertEqual(last("begin 3 1, have 0 3, have 0 1, need 1 9, need 1 0, sums"), [0, 1, 0])

    def test_the_most(self):
        text = "begin 8 1" + "".join(f", have {i} 9, need {i} 9" for i in range(8))
        self.assertEqual(last(text + ", sums"), [0, 72, 72])


class State(unittest.TestCase):
    def test_stations_and_step(self):
        for n in range(2, 9):
            for t in range(1, 11):
                self.assertEqual(last(f"begin {n} {t}, state"), [0, n, t, 0, 0])
        self.assertEqual(last("begin 5 2, step 10, state"), [0, 5, 10, 0, 0])
        self.assertEqual(last("begin 5 2, begin 9 1, begin 3 11, state"), [0, 5, 2, 0, 0])

    def test_pits(self):
        self.assertEqual(last(FULL + ", state"), [0, 2, 3, 2, 2])
        self.assertEqual(told("begin 3 1, borrow 0 0, state, borrow 2 50, state, spoil 2 0, state, borrow 2 1, state, "
                              "noborrow 0, state, nospoil 2, state")[2::2],
                         [[0, 3, 1, 1, 0], [0, 3, 1, 2, 0], [0, 3, 1, 2, 1], [0, 3, 1, 2, 1], [0, 3, 1, 1, 1],
                          [0, 3, 1, 1, 0]])
        text = "begin 8 1" + "".join(f", borrow {i} 0, spoil {i} 0" for i in range(8))
        self.assertEqual(last(text + ", state"), [0, 8, 1, 8, 8])

    def test_a_begin_takes_pits_away(self):
        self.assertEqual(told(FULL + ", begin 4 1, state, sums, station 0")[-3:],
                         [[0, 4, 1, 0, 0], [0, 0, 0], [0, 0, 0, 0]])


if __name__ == "__main__":
    unittest.main()
