"""The interface: the form of what is given back, and what is said of what is handed in."""

import unittest
from random import Random

from haul.earth import answers
from helper import HOW_MANY, MOST, NAMES, numbers_of, told

TEXT = ("begin 3 2, have 0 5, need 2 3, spoil 0 1, borrow 1 4, can, cost, flows, loads, borrowed, "
        "noborrow 1, noborrow 1, nospoil 0, cost, flows, loads, borrowed, step 0, begin 9 9, have 3 1, need 0 10")


def random_calls(source, count):
    calls = []
    for turn in range(count):
        number = source.randrange(len(NAMES)) if turn % 9 else 0
        calls.append(number)
        for place in range(HOW_MANY.get(NAMES[number], 0)):
            calls.append(source.choice((0, 1, 2, 3, 5, 8, 9, 10, 50, 51, MOST)))
    return calls


class Unchanging(list):
    """A list that fails a test that would change it, be it for a while."""

    def refuse(self, *given, **named):
        raise AssertionError("what is handed in is changed")

    __setitem__ = __delitem__ = __iadd__ = __imul__ = refuse
    append = extend = insert = pop = remove = clear = sort = reverse = refuse


class Interface(unittest.TestCase):
    def test_each_call_by_its_number(self):
        calls = [0, 2, 3, 1, 0, 5, 2, 1, 3, 3, 1, 8, 5, 0, 4, 7, 2, 8, 9, 10, 11, 12, 4, 1, 6, 0, 9]
        self.assertEqual(answers(calls), [1, 0, 1, 0, 1, 0, 1, 0, 1, 0, 1, 3, 1, 1, 1, 14, 2, 1, 3,
                                          4, 1, 0, 1, 3, 3, 0, 0, 0, 1, 8, 1, 4, 1, -33])

    def test_a_refusal_is_its_number_alone(self):
        self.assertEqual(answers([8]), [1, -11])
        self.assertEqual(answers([0, 1, 1, 0, 2, 1, 1, 2, 0, 1, 0, 10, 4, 0]),
                         [1, -22, 1, 0, 1, -2, 1, -22, 1, -6])
        self.assertEqual(answers([0, 8, 1, 1, 0, 1, 9, 10, 11, 12]),
                         [1, 0, 1, 0, 1, -33, 1, -33, 1, -33, 1, -33])

    def test_whole_numbers_in_a_list(self):
        given = answers(numbers_of(TEXT))
        self.assertIs(type(given), list)
        for number in given:
            self.assertIs(type(number), int)

    def test_what_is_handed_in_is_not_changed(self):
        calls = numbers_of(TEXT)
        kept = list(calls)
        given = answers(calls)
        self.assertEqual(calls, kept)
        self.assertIsNot(given, calls)
        self.assertEqual(answers(Unchanging(calls)), given)

    def test_nothing_is_kept_between_calls(self):
        calls = numbers_of(TEXT)
        first = answers(calls)
        self.assertEqual(told("can, cost, step 1"), [[-11], [-11], [-11]])
        self.assertEqual(answers(calls), first)
        first.append(7)
        self.assertEqual(answers(calls), first[:-1])

    def test_lines_of_256_calls(self):
        source = Random(11)
        for turn in range(40):
            calls = random_calls(source, 256)
            kept = list(calls)
            given = answers(calls)
            self.assertEqual(answers(calls), given)
            self.assertEqual(calls, kept)

    def test_the_dearest_line(self):
        text = "begin 8 10" + "".join(f", have {i} 9, borrow {i} 50, spoil {i} 50" for i in range(8))
        parts = told(text + ", loads" * 231)
        self.assertEqual(len(parts), 256)
        self.assertEqual(parts[-231:], [[0]] * 231)


if __name__ == "__main__":
    unittest.main()
