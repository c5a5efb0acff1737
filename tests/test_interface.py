"""The interface: the form of what is given back, and what is said of what is handed in."""

import unittest
from random import Random

from haul.earth import answers
from helper import HOW_MANY, MOST, NAMES, WITH_ROW, numbers_of, told

TEXT = ("begin 3 2, have 0 5, need 2 3, spoil 0 1, borrow 1 4, can, cost, flows, loads, borrowed, "
        "spoiled, try_way 75 75, try_way 73 73, try_way, prices, bound 130 132 134, bound 131 131 131, bound 1, "
        "ifstep 1, ifstep 11, ifpit 2 0, ifpit 3 0, bestpit 3, bestpit 51, without 0, without 3, farthest, "
        "station 0, station 3, sums, state, "
        "noborrow 1, noborrow 1, nospoil 0, cost, flows, loads, borrowed, step 0, begin 9 9, have 3 1, need 0 10, "
        "spoiled, try_way 72 72, prices, bound 130 130 130, ifstep 1, ifpit 2 0, bestpit 3, without 0, farthest")


def random_row(source, middle):
    size = source.choice((0, 1, 1, 2, 2, 3, 4, 5, 6, 7, 8, 9, 40))
    near = source.choice((0, 1, 3, 200, 65000))
    return [size] + [max(middle + source.randint(-near, near), 0) for place in range(size)]


def random_calls(source, count):
    calls = []
    for turn in range(count):
        number = source.randrange(len(NAMES)) if turn % 9 else 0
        calls.append(number)
        if NAMES[number] in WITH_ROW:
            calls.extend(random_row(source, 72 if NAMES[number] == "try_way" else 130))
        for place in range(HOW_MANY.get(NAMES[number], 0)):
            calls.append(source.choice((0, 1, 2, 3, 5, 8, 9, 10, 50, 51, MOST)))
    return calls


class Unchanging(list):
    """A list that fails a test that would change it, be it for a while."""

    def refuse(self, *given, **named):
        raise AssertionError("what is handed in is changed")

    __setitem__ = __delitem__ = __iadd__ = __imul__ = refuse
    append = extend = insert = pop = remove = clear = sort = reverse = refuse


class Interface(unittest.TestCase):
    def test_each_call_by_its_number(self):
        calls = [0, 2, 3, 1, 0, 5, 2, 1, 3, 3, 1, 8, 5, 0, 4, 7, 2, 8, 9, 10, 11, 12, 4, 1, 6, 0, 9]
        self.assertEqual(answers(calls), [1, 0, 1, 0, 1, 0, 1, 0, 1, 0, 1, 3, 1, 1, 1, 14, 2, 1, 3,
                                          4, 1, 0, 1, 3, 3, 0, 0, 0, 1, 8, 1, 4, 1, -33])

    def test_each_of_the_later_calls_by_its_number(self):
        road = [0, 2, 3, 1, 0, 5, 2, 1, 3, 3, 1, 8, 5, 0, 4]
        before = answers(road)
        for call, expected in (([13], [3, 2, 2, 0]), ([14, 1, 75], [1, 17]), ([14, 1, 76], [1, -33]),
                               ([14, 0], [1, -22]), ([14, 2, 75, 75], [1, -22]), ([15], [3, 2, -4, -1]),
                               ([16, 2, 126, 129], [2, 0, 17]), ([16, 2, 130, 128], [2, 0, -6]),
                               ([16, 2, 125, 128], [1, -33]), ([16, 0], [1, -22]), ([17, 1], [1, 11]),
                               ([18, 1, 0], [1, 17]), ([18, 0, 0], [1, 17]), ([19, 7], [2, 0, 17]), ([20, 0], [1, -33]),
                               ([20, 1], [1, 17]), ([21], [1, 1]), ([22, 0], [4, 5, 0, 0, 5]),
                               ([22, 1], [4, 0, 3, 9, 0]), ([23], [3, 0, 5, 3]), ([24], [5, 0, 2, 3, 1, 1])):
            self.assertEqual(answers(road + call), before + expected, call)
            # What stands behind a call is read as the next one.
            self.assertEqual(answers(road + call + call + [8]), before + expected + expected + [1, 1], call)

    def test_numbers_below_0_behind_the_first(self):
        self.assertEqual(answers([0, 2, 1, 1, 1, 4, 2, 0, 4, 10, 15, 16, 2, 130, 131]),
                         [1, 0, 1, 0, 1, 0, 2, 1, -4, 3, 2, 0, -1, 2, 0, -4])

    def test_a_refusal_is_its_number_alone(self):
        self.assertEqual(answers([8]), [1, -11])
        self.assertEqual(answers([0, 1, 1, 0, 2, 1, 1, 2, 0, 1, 0, 10, 4, 0]),
                         [1, -22, 1, 0, 1, -2, 1, -22, 1, -6])
        self.assertEqual(answers([0, 8, 1, 1, 0, 1, 9, 10, 11, 12]),
                         [1, 0, 1, 0, 1, -33, 1, -33, 1, -33, 1, -33])
        self.assertEqual(answers([0, 2, 1, 1, 0, 1, 13, 14, 1, 72, 15, 16, 2, 130, 132,
                                  17, 1, 18, 0, 0, 19, 0, 20, 0, 21]), [1, 0, 1, 0] + [1, -33] * 9)
        self.assertEqual(answers([0, 2, 1, 14, 0, 16, 0, 17, 0, 18, 2, 0, 18, 0, 51, 19, 51, 20, 2, 22, 2]),
                         [1, 0] + [1, -22] * 3 + [1, -2] + [1, -22] * 2 + [1, -2] * 2)

    def test_whole_numbers_in_a_list(self):
        given = answers(numbers_of(TEXT))
        self.assertIs(type(given), list)
        for number in given:
            self.assertIs(type(number), int)

    def test_what_is_handed_in_is_not_changed(self):
        calls = numbers_of(TEXT)
        kept = list(calls)
        given = answers(calls)
        self.assertEqual(calls, kept)
        self.assertIsNot(given, calls)
        self.assertEqual(answers(Unchanging(calls)), given)

    def test_nothing_is_kept_between_calls(self):
        calls = numbers_of(TEXT)
        first = answers(calls)
        self.assertEqual(told("can, cost, step 1, prices, state"), [[-11]] * 5)
        self.assertEqual(answers(calls), first)
        first.append(7)
        self.assertEqual(answers(calls), first[:-1])

    def test_lines_of_256_calls(self):
        source = Random(11)
        for turn in range(40):
            calls = random_calls(source, 256)
            kept = list(calls)
            given = answers(calls)
            self.assertEqual(answers(calls), given)
            self.assertEqual(calls, kept)

    def test_the_dearest_line(self):
        text = "begin 8 10" + "".join(f", have {i} 9, borrow {i} 50, spoil {i} 50" for i in range(8))
        row = [-50, -60, -70, -80, -80, -70, -60, -50]
        for call, expected in (("loads", [0]), ("bestpit 50", [0, 3600]), ("prices", [8] + [-50] * 8),
                               ("spoiled", [72] + [9] * 8), ("try_way" + " 72" * 7, [3600]),
                               ("bound" + "".join(f" {price + 130}" for price in row), [-33])):
            parts = told(text + f", {call}" * 231)
            self.assertEqual(len(parts), 256)
            self.assertEqual(parts[-231:], [expected] * 231)

    def test_the_longest_rows(self):
        parts = told("begin 8 10" + (", try_way" + " 65535" * 40 + ", bound" + " 65535" * 40) * 127 + ", state")
        self.assertEqual(len(parts), 256)
        self.assertEqual(parts[1:], [[-22]] * 254 + [[0, 8, 10, 0, 0]])


if __name__ == "__main__":
    unittest.main()
