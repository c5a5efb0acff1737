"""Point 1: the calls that tell of the road, and what they refuse."""

import unittest

from helper import FULL, LOOKS, MOST, NAMES, last, shown, told

FULL_SHOWN = [[5, 1, 5, 8], [2, 8, 41, 10], [-2], [-2],
              [5], [2], [1], [8], [4], [40], [7], [9], [3], [-2], [-2]]


class Begin(unittest.TestCase):
    def test_the_ends_of_the_range_of_stations(self):
        for n in range(2, 9):
            self.assertEqual(last(f"begin {n} 1"), [0])
        for n in (0, 1, 9, 10, 65536, MOST):
            self.assertEqual(last(f"begin {n} 1"), [-22])

    def test_the_ends_of_the_range_of_a_step(self):
        for t in range(1, 11):
            self.assertEqual(last(f"begin 2 {t}"), [0])
        for t in (0, 11, 12, 65536, MOST):
            self.assertEqual(last(f"begin 2 {t}"), [-22])

    def test_both_out_of_range(self):
        self.assertEqual(last("begin 0 0"), [-22])
        self.assertEqual(last(f"begin {MOST} {MOST}"), [-22])

    def test_so_many_stations_with_nothing_told_of_them(self):
        for n in range(2, 9):
            for i in range(n):
                self.assertEqual(
                    told(f"begin {n} 7, have {i} 0, need {i} 0, noborrow {i}, nospoil {i}, borrow {i} 0, spoil {i} 0"),
                    [[0], [0], [0], [-6], [-6], [0], [0]])
            self.assertEqual(last(f"begin {n} 7, have {n} 0"), [-2])
            self.assertEqual(last(f"begin {n} 7, step 1"), [7])

    def test_a_second_begin_starts_anew(self):
        self.assertEqual(shown(FULL + ", begin 2 6"), shown("begin 2 6"))
        self.assertEqual(told(FULL + ", begin 3 6, have 2 1, have 3 1, step 1")[-3:], [[0], [-2], [6]])
        self.assertEqual(told("begin 8 1, have 7 9, begin 2 1, have 2 0, begin 8 1, have 7 0")[-3:], [[-2], [0], [0]])

    def test_a_refused_second_begin_changes_nothing(self):
        for refused in ("begin 1 1", "begin 9 1", "begin 2 0", "begin 3 11", f"begin {MOST} {MOST}", "begin 0 0"):
            self.assertEqual(last(f"{FULL}, {refused}"), [-22])
            self.assertEqual(shown(f"{FULL}, {refused}"), shown(FULL))
            self.assertEqual(shown(f"{FULL}, {refused}")[len(LOOKS):], FULL_SHOWN)


class NotBegun(unittest.TestCase):
    FORTY = " 72" * 40
    OTHERS = ("have 0 0", f"have {MOST} {MOST}", "have 0 10", "need 0 0", f"need {MOST} {MOST}", "need 9 10",
              "borrow 0 0", "borrow 9 51", f"borrow {MOST} {MOST}", "noborrow 0", f"noborrow {MOST}",
              "spoil 0 0", "spoil 9 51", f"spoil {MOST} {MOST}", "nospoil 0", f"nospoil {MOST}",
              "step 1", "step 0", f"step {MOST}",
              "try_way", "try_way 72", "try_way 145", "try_way 65535 65535", "try_way" + FORTY,
              "bound", "bound 130 130", "bound 261", "bound 65535 65535", "bound" + FORTY,
              "ifstep 1", "ifstep 0", f"ifstep {MOST}", "ifpit 0 0", "ifpit 9 51", f"ifpit {MOST} {MOST}",
              "bestpit 0", "bestpit 51", f"bestpit {MOST}", "without 0", f"without {MOST}",
              "station 0", f"station {MOST}") + LOOKS

    def test_all_calls_but_begin_are_among_them(self):
        self.assertEqual({call.split()[0] for call in self.OTHERS}, set(NAMES) - {"begin"})

    def test_every_other_call_on_a_new_object(self):
        for call in self.OTHERS:
            self.assertEqual(told(call), [[-11]], call)
        self.assertEqual(told(", ".join(self.OTHERS)), [[-11]] * len(self.OTHERS))

    def test_every_other_call_behind_a_refused_begin(self):
        for refused in ("begin 1 1", "begin 9 1", "begin 2 0", "begin 2 11", f"begin {MOST} {MOST}"):
            for call in self.OTHERS:
                self.assertEqual(told(f"{refused}, {call}"), [[-22], [-11]], call)

    def test_the_calls_behind_are_read_as_they_stand(self):
        for call in self.OTHERS:
            self.assertEqual(told(f"{call}, begin 3 4, have 2 5, spoil 2 1, state, station 2, cost"),
                             [[-11], [0], [0], [0], [0, 3, 4, 0, 1], [5, 0, 0, 2], [5]], call)

    def test_a_row_of_what_looks_like_calls_is_a_row(self):
        self.assertEqual(told("try_way 0 2 1 8, bound 0 2 1, can"), [[-11]] * 3)
        self.assertEqual(told("begin 2 1, try_way 0 3 1 8, bound 0 3 1, state"),
                         [[0], [-22], [-22], [0, 2, 1, 0, 0]])

    def test_what_was_told_before_is_not_kept(self):
        self.assertEqual(shown("have 0 3, borrow 1 4, step 9, " + "begin 2 2"), shown("begin 2 2"))


class Earth(unittest.TestCase):
    def test_what_it_did_is_answered(self):
        for call in ("have", "need"):
            self.assertEqual(told(f"begin 3 1, {call} 1 4, {call} 1 9, {call} 1 0, {call} 1 2"),
                             [[0], [0], [4], [9], [0]])

    def test_the_ends_of_the_range(self):
        for call in ("have", "need"):
            for x in range(10):
                self.assertEqual(told(f"begin 2 1, {call} 1 {x}, {call} 1 0"), [[0], [0], [x]])
            for x in (10, 11, 65536, MOST):
                self.assertEqual(told(f"begin 2 1, {call} 1 3, {call} 1 {x}, {call} 1 0"), [[0], [0], [-22], [3]])

    def test_no_such_station_comes_first(self):
        for call in ("have", "need"):
            for i in (3, 4, 8, MOST):
                for x in (0, 9, 10, MOST):
                    self.assertEqual(last(f"begin 3 1, {call} {i} {x}"), [-2])

    def test_each_station_and_each_of_both_by_itself(self):
        self.assertEqual(told("begin 2 1, have 0 1, have 1 2, need 0 3, need 1 4, "
                              "have 0 0, have 1 0, need 0 0, need 1 0")[-4:], [[1], [2], [3], [4]])


class Pits(unittest.TestCase):
    def test_one_more_than_the_price_that_was(self):
        for call in ("borrow", "spoil"):
            self.assertEqual(told(f"begin 3 1, {call} 2 0, {call} 2 50, {call} 2 7, no{call} 2, {call} 2 1"),
                             [[0], [0], [1], [51], [7], [0]])

    def test_the_ends_of_the_range(self):
        for call in ("borrow", "spoil"):
            for p in range(51):
                self.assertEqual(told(f"begin 2 1, {call} 0 {p}, no{call} 0, no{call} 0"), [[0], [0], [p], [-6]])
            for p in (51, 52, 65536, MOST):
                self.assertEqual(told(f"begin 2 1, {call} 0 {p}, no{call} 0"), [[0], [-22], [-6]])
                self.assertEqual(told(f"begin 2 1, {call} 0 5, {call} 0 {p}, no{call} 0"), [[0], [0], [-22], [5]])

    def test_no_such_station_comes_first(self):
        for call in ("borrow", "spoil"):
            for i in (3, 4, 8, MOST):
                for p in (0, 50, 51, MOST):
                    self.assertEqual(last(f"begin 3 1, {call} {i} {p}"), [-2])
                self.assertEqual(last(f"begin 3 1, no{call} {i}"), [-2])

    def test_none_of_the_other_kind_or_place(self):
        self.assertEqual(told("begin 2 1, borrow 0 3, nospoil 0, noborrow 1, noborrow 0"),
                         [[0], [0], [-6], [-6], [3]])
        self.assertEqual(told("begin 2 1, spoil 0 3, noborrow 0, nospoil 1, nospoil 0"),
                         [[0], [0], [-6], [-6], [3]])


class Step(unittest.TestCase):
    def test_what_it_did_is_answered(self):
        self.assertEqual(told("begin 2 4, step 10, step 1, step 1, step 7"), [[0], [4], [10], [1], [1]])

    def test_the_ends_of_the_range(self):
        for t in range(1, 11):
            self.assertEqual(told(f"begin 2 3, step {t}, step 1"), [[0], [3], [t]])
        for t in (0, 11, 12, 65536, MOST):
            self.assertEqual(told(f"begin 2 3, step {t}, step 1"), [[0], [-22], [3]])


class Unchanged(unittest.TestCase):
    def test_all_is_shown(self):
        self.assertEqual(shown(FULL)[len(LOOKS):], FULL_SHOWN)

    def test_a_refused_call_changes_nothing(self):
        for refused in ("have 2 3", "have 0 10", f"have {MOST} {MOST}", "need 2 3", "need 1 10", f"need 0 {MOST}",
                        "borrow 2 3", "borrow 0 51", f"borrow 1 {MOST}", "noborrow 2", f"noborrow {MOST}",
                        "spoil 2 3", "spoil 0 51", f"spoil 1 {MOST}", "nospoil 2", f"nospoil {MOST}",
                        "step 0", "step 11", f"step {MOST}",
                        "try_way", "try_way 145", "try_way 72 72", "try_way 65535", "try_way" + " 72" * 40,
                        "bound", "bound 130", "bound 261 130", "bound 130 130 130", "bound 135 131", "bound 65535 0",
                        "bound" + " 130" * 40, "ifstep 0", "ifstep 11", f"ifstep {MOST}",
                        "ifpit 2 1", "ifpit 0 51", f"ifpit {MOST} {MOST}", "bestpit 51", f"bestpit {MOST}",
                        "without 2", f"without {MOST}", "station 2", f"station {MOST}"):
            self.assertLess(last(f"{FULL}, {refused}")[0], 0)
            self.assertEqual(shown(f"{FULL}, {refused}"), shown(FULL), refused)

    def test_to_take_away_what_is_not_there_changes_nothing(self):
        for text, refused in (("begin 2 1, spoil 0 3", "noborrow 0"), ("begin 2 1, borrow 1 3", "nospoil 1")):
            self.assertEqual(last(f"{text}, {refused}"), [-6])
            self.assertEqual(shown(f"{text}, {refused}"), shown(text))

    def test_looking_changes_nothing(self):
        looks = LOOKS + ("try_way 72", "try_way 77", "try_way 0", "bound 130 130", "bound 131 133",
                         "ifstep 1", "ifstep 3", "ifstep 10", "ifpit 0 0", "ifpit 1 50", "ifpit 1 3",
                         "bestpit 0", "bestpit 4", "bestpit 50", "without 0", "without 1", "station 0", "station 1")
        for text in (FULL, "begin 2 1, have 0 4", "begin 2 1, have 0 4, need 1 4", "begin 3 2, need 1 9, borrow 2 50"):
            for look in looks:
                self.assertEqual(shown(f"{text}, {look}"), shown(text))
                self.assertEqual(told(f"{text}, {look}, {look}")[-1], last(f"{text}, {look}"))


if __name__ == "__main__":
    unittest.main()
