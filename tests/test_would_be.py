"""Point 4: ifstep, ifpit, bestpit and without, by written answers."""

import unittest

from helper import FULL, MOST, last, shown, told

SIDE_BY_SIDE = "begin 2 10, have 0 5, need 1 5, spoil 0 1, borrow 1 2"


class Answers(unittest.TestCase):
    def check(self, text, call, *answer):
        self.assertEqual(last(f"{text}, {call}"), list(answer), (text, call))


class IfStep(Answers):
    def test_what_cost_would_answer(self):
        for t, cost in ((1, 5), (2, 10), (3, 15), (4, 15), (10, 15)):
            self.check(SIDE_BY_SIDE, f"ifstep {t}", cost)
            self.check(SIDE_BY_SIDE + ", step 1", f"ifstep {t}", cost)
        for t in range(1, 11):
            self.check("begin 4 1, have 3 2, need 0 2", f"ifstep {t}", 6 * t)

    def test_the_ends_of_the_range(self):
        self.check("begin 2 5, have 0 1, need 1 1", "ifstep 1", 1)
        self.check("begin 2 5, have 0 1, need 1 1", "ifstep 10", 10)
        for t in (0, 11, 12, 65536, MOST):
            self.check("begin 2 5, have 0 1, need 1 1", f"ifstep {t}", -22)

    def test_there_would_be_no_way(self):
        for text in ("begin 2 5, have 0 1", "begin 2 5, need 0 1, spoil 0 1"):
            self.check(text, "ifstep 5", -33)
            self.check(text, "ifstep 0", -22)
            self.check(text, "ifstep 11", -22)

    def test_the_step_stays(self):
        self.assertEqual(told(SIDE_BY_SIDE + ", ifstep 1, cost, flows, prices, state, step 2")[-5:],
                         [[15], [1, 0], [2, -1, 2], [0, 2, 10, 1, 1], [10]])


class IfPit(Answers):
    def test_what_cost_would_answer(self):
        text = "begin 3 2, need 0 3"
        for call, cost in (("ifpit 0 5", 15), ("ifpit 1 5", 21), ("ifpit 2 5", 27), ("ifpit 2 0", 12)):
            self.check(text, call, cost)
        self.check("begin 2 10, have 0 5, need 1 5, spoil 0 1", "ifpit 1 2", 15)
        self.check("begin 2 2, have 0 5, need 1 5, spoil 0 1", "ifpit 1 2", 10)

    def test_in_the_place_of_the_pit_that_is(self):
        text = "begin 2 1, need 0 2, borrow 0 3"
        for call, cost in (("ifpit 0 10", 20), ("ifpit 0 1", 2), ("ifpit 0 0", 0), ("ifpit 1 1", 4), ("ifpit 1 9", 6)):
            self.check(text, call, cost)

    def test_beside_a_pit_to_spoil_at(self):
        text = "begin 2 2, spoil 0 4, need 1 3"
        self.check(text, "cost", -33)
        self.check(text, "ifpit 0 5", 21)
        self.check(text + ", have 0 9", "ifpit 0 5", 30)

    def test_the_ends_of_the_range(self):
        text = "begin 3 1, need 2 1"
        self.check(text, "ifpit 0 0", 2)
        self.check(text, "ifpit 2 0", 0)
        self.check(text, "ifpit 2 50", 50)
        for p in (51, 52, 65536, MOST):
            self.check(text, f"ifpit 2 {p}", -22)
        for i in (3, 4, 8, MOST):
            for p in (0, 50, 51, MOST):
                self.check(text, f"ifpit {i} {p}", -2)

    def test_there_would_be_no_way(self):
        text = "begin 2 1, have 0 1"
        self.check(text, "ifpit 0 0", -33)
        self.check(text, "ifpit 1 50", -33)
        self.check(text, "ifpit 1 51", -22)
        self.check(text, "ifpit 2 51", -2)

    def test_the_pits_stay(self):
        for call in ("ifpit 0 0", "ifpit 1 50", "bestpit 0", "without 0", "without 1"):
            self.assertEqual(shown(f"{FULL}, {call}"), shown(FULL), call)
        self.assertEqual(told("begin 2 1, need 0 1, ifpit 0 0, can, noborrow 0, station 0")[-4:],
                         [[0], [0], [-6], [0, 1, 0, 0]])


class BestPit(Answers):
    def test_the_station_and_what_it_would_cost(self):
        self.check("begin 3 1, need 2 4", "bestpit 0", 2, 0)
        self.check("begin 3 1, need 2 4", "bestpit 7", 2, 28)
        self.check("begin 4 2, need 0 1, need 1 1, need 2 4", "bestpit 3", 2, 24)
        self.check("begin 8 1, need 7 9", "bestpit 50", 7, 450)
        self.check("begin 2 10, have 0 5, need 1 5, spoil 0 1", "bestpit 2", 1, 15)

    def test_of_like_ones_the_first(self):
        self.check("begin 3 2, need 0 3, need 2 3", "bestpit 5", 0, 42)
        self.check("begin 3 1, need 1 2, borrow 1 0", "bestpit 4", 0, 0)
        self.check("begin 3 1, have 0 1, need 0 1", "bestpit 0", 0, 0)
        self.check("begin 4 1, need 1 2, need 2 2", "bestpit 1", 1, 6)

    def test_in_the_place_of_the_pit_that_is(self):
        self.check("begin 2 1, need 0 2, need 1 1, borrow 0 1", "bestpit 50", 1, 4)
        self.check("begin 2 1, need 0 2, need 1 1, borrow 0 1", "bestpit 0", 0, 1)

    def test_where_it_makes_none_cheaper(self):
        self.check("begin 2 1, have 0 4, need 1 4", "bestpit 50", 0, 4)
        self.check("begin 2 1, have 0 4, spoil 1 2", "bestpit 0", 0, 12)

    def test_there_would_be_no_way(self):
        for text in ("begin 2 1, have 0 1", "begin 8 1, have 7 9, need 0 8, borrow 3 1"):
            self.check(text, "bestpit 0", -33)
            self.check(text, "bestpit 50", -33)
            self.check(text, "bestpit 51", -22)
            self.check(text, f"bestpit {MOST}", -22)

    def test_the_ends_of_the_range(self):
        self.check("begin 2 1, need 1 1", "bestpit 0", 1, 0)
        self.check("begin 2 1, need 1 1", "bestpit 50", 1, 50)
        for p in (51, 52, 65536, MOST):
            self.check("begin 2 1, need 1 1", f"bestpit {p}", -22)


class Without(Answers):
    def test_what_cost_would_answer(self):
        text = "begin 2 1, need 0 2, borrow 0 3, borrow 1 5"
        self.check(text, "without 0", 12)
        self.check(text, "without 1", 6)
        self.check(SIDE_BY_SIDE, "without 0", 50)
        self.check(SIDE_BY_SIDE, "without 1", 50)

    def test_both_pits_are_gone(self):
        self.check("begin 3 1, have 0 2, borrow 0 0, spoil 0 1, spoil 2 4", "without 0", 12)
        self.check("begin 3 1, need 0 2, borrow 0 1, spoil 0 0, borrow 2 4", "without 0", 12)
        self.check("begin 2 1, borrow 1 0, spoil 1 0, have 0 1, spoil 0 5, borrow 0 5", "without 1", 5)
        self.check("begin 2 1, borrow 1 0, spoil 1 0, need 0 1, spoil 0 5, borrow 0 5", "without 1", 5)

    def test_where_there_is_no_pit(self):
        self.check("begin 3 1, have 0 2, spoil 2 4", "without 0", 12)
        self.check("begin 3 1, have 0 2, spoil 2 4", "without 1", 12)
        self.check("begin 2 4, have 0 1, need 1 1", "without 1", 4)
        self.check("begin 2 4", "without 0", 0)

    def test_there_would_be_no_way(self):
        self.check("begin 3 1, have 0 2, spoil 2 4", "without 2", -33)
        self.check("begin 3 1, need 0 2, borrow 2 4", "without 2", -33)
        self.check("begin 2 2, borrow 0 1, spoil 0 1, need 1 3", "without 0", -33)
        self.check("begin 2 2, borrow 0 1, spoil 0 1, have 1 3", "without 0", -33)
        self.check("begin 3 1, have 0 2", "without 1", -33)

    def test_no_such_station(self):
        for text in ("begin 3 1", "begin 3 1, have 0 2"):
            for i in (3, 4, 8, MOST):
                self.check(text, f"without {i}", -2)
        self.check("begin 8 1", "without 7", 0)


if __name__ == "__main__":
    unittest.main()
