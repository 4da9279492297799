"""The interface: calls as one list of numbers, and answers as one."""

import unittest

from helper import apart, joined, start, start_nothing, put, wait, get, told, waited, DONE, NOT, NAND, NOR, LONGEST
from waitboard.board import answers


class Numbers(unittest.TestCase):
    def test_written_out(self):
        calls = [0, 2, 6, 1, 1, 1, 0, 1, 5, 1, 0, 1, 2, 3, 2, 1, 7, 0, 3, 9, 0, 2000, 1, 0]
        self.assertEqual(answers(calls), [2, 0, 0, 2, 0, 0, 3, 1, 0, 5, 2, 0, 1, 2, 0, -22, 2, 0, -22, 2, 0, -22])

    def test_one_call(self):
        self.assertEqual(answers([0, 0, 1, 0]), [2, 0, -22])
        self.assertEqual(answers([0, 0, 2, 1, 0]), [2, 0, 0])

    def test_whole_numbers_alone(self):
        calls = joined([start(1, (NOT, 0, 0, 3), (NOT, 2, 0, 3)), put(0, 1), wait(), get(0), get(1), get(2), get(9)])
        for number in answers(calls):
            self.assertIs(type(number), int)
        self.assertIs(type(answers(calls)), list)


class Kept(unittest.TestCase):
    CALLS = joined([start(2, (NOR, 0, 3, 3), (NOR, 1, 2, 4)), put(1, 1), wait(), get(2), put(1, 0), put(0, 2), wait(),
                    get(3), get(4), start_nothing(1), start(1, (NOT, 0, 9, 2)), wait(), get(1)])

    def test_what_is_handed_in_is_not_changed(self):
        calls = list(self.CALLS)
        answers(calls)
        self.assertEqual(calls, self.CALLS)

    def test_not_for_a_while_either(self):
        class Watched(list):
            def changed(self, *given):
                raise AssertionError("what was handed in is changed")
            __setitem__ = __delitem__ = __iadd__ = __imul__ = changed
            append = extend = insert = pop = remove = clear = sort = reverse = changed
        self.assertEqual(answers(Watched(self.CALLS)), answers(list(self.CALLS)))

    def test_a_second_time(self):
        calls = list(self.CALLS)
        first = answers(calls)
        self.assertEqual(answers(calls), first)
        answers(joined([start(1, (NOT, 0, 0, 9)), put(0, 1), wait()]))
        self.assertEqual(answers(calls), first)

    def test_what_is_given_back_is_a_new_list(self):
        first = answers(list(self.CALLS))
        copy = list(first)
        first.clear()
        self.assertEqual(answers(list(self.CALLS)), copy)


class Longest(unittest.TestCase):
    def check(self, calls, expected):
        self.assertEqual(len(calls), 50)
        numbers = joined(calls)
        self.assertLessEqual(len(numbers), 16000)
        self.assertGreater(len(numbers), 15900)
        self.assertEqual(apart(answers(numbers)), expected)

    def test_gets_and_waits(self):
        row = start(1, *[(NAND, place, place, LONGEST) for place in range(3974)])
        calls = [row, put(0, 1), get(3974), wait()] + [get(3974), get(3973)] * 23
        self.check(calls, [DONE, DONE, told(2), waited(0, 3974 * LONGEST)] + [told(1), told(0)] * 23)

    def test_sets_and_waits(self):
        row = start(1, *[(NOT, place, 0, LONGEST) for place in range(3974)])
        calls = [row, wait()] + [put(0, 1), wait(), put(0, 0), wait()] * 12
        self.check(calls, [DONE, waited(0, 3974 * LONGEST)] + [DONE, waited(0, 3974 * LONGEST)] * 24)

    def test_gates_that_all_use_one(self):
        wide = start(1, *[(NOR, 0, 0, LONGEST - place * 7919 % 3974) for place in range(3974)])
        calls = [wide, wait()] + [put(0, 1), wait(), put(0, 0), wait()] * 12
        self.check(calls, [DONE, waited(0, LONGEST)] + [DONE, waited(0, LONGEST)] * 24)

    def test_starts(self):
        gates = [(NOT, place, 0, 5) for place in range(77)]
        calls = [start(1, *gates)] * 49 + [start(1, *(gates + gates))]
        self.check(calls, [DONE] * 50)


if __name__ == "__main__":
    unittest.main()
