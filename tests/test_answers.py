"""The interface: calls as one list of numbers, and answers as one."""

import unittest

from helper import (apart, joined, start, start_nothing, put, wait, get, when, why, longest, told, waited, timed, way,
                    DONE, REFUSED, NO_WAIT, NOT_TOLD, NO_ROOM, NOT, NAND, NOR, LONGEST)
from waitboard.board import answers


class Numbers(unittest.TestCase):
    def test_written_out(self):
        calls = [0, 2, 6, 1, 1, 1, 0, 1, 5, 1, 0, 1, 2, 3, 2, 1, 7, 0, 3, 9, 0, 2000, 1, 0]
        self.assertEqual(answers(calls), [2, 0, 0, 2, 0, 0, 3, 1, 0, 5, 2, 0, 1, 2, 0, -22, 2, 0, -22, 2, 0, -22])

    def test_times_and_ways_written_out(self):
        # One input and two nots in a row; what comes behind is refused, with form 0 and its number alone.
        calls = [0, 1, 10, 1, 2, 0, 0, 0, 5, 0, 1, 0, 7, 6, 4, 2, 5, 2, 9, 2, 4, 2, 5, 2, 3, 6, 5, 0, 1, 5, 2, 2, 4, 3]
        self.assertEqual(answers(calls), [2, 0, 0, 3, 1, 0, 0, 2, 0, -11, 2, 0, -11, 3, 1, 0, 12, 3, 1, 0, 12,
                                          5, 2, 3, 2, 1, 0, 3, 1, 0, 12, 3, 2, 1, 0, 2, 0, -28, 2, 0, -22])
        self.assertEqual(answers([0, 0, 6, 1, 1, 0, 0, 0, 5, 2, 4, 0, 5, 0, 9]),
                         [2, 0, 0, 3, 1, 1, 0, 2, 0, -2, 2, 0, -2])

    def test_one_call(self):
        self.assertEqual(answers([0, 0, 1, 0]), [2, 0, -22])
        self.assertEqual(answers([0, 0, 2, 1, 0]), [2, 0, 0])

    def test_whole_numbers_alone(self):
        calls = joined([start(1, (NOT, 0, 0, 3), (NOT, 2, 0, 3)), put(0, 1), wait(), get(0), get(1), get(2), get(9),
                        when(0), when(1), when(2), when(9), why(0), why(1), why(1, 0), why(2), longest()])
        for number in answers(calls):
            self.assertIs(type(number), int)
        self.assertIs(type(answers(calls)), list)


class Kept(unittest.TestCase):
    # All seven calls, most of them answered and refused.
    CALLS = joined([start(2, (NOR, 0, 3, 3), (NOR, 1, 2, 4)), longest(), when(2), why(2), put(1, 1), wait(), get(2),
                    when(2), why(2), why(2, 2), put(1, 0), put(0, 2), wait(), get(3), get(4), when(4), why(4),
                    longest(), start_nothing(1), longest(), why(3), start(1, (NOT, 0, 9, 2), (NOT, 2, 9, 2)), longest(),
                    when(1), wait(), get(1), when(1), when(2), why(1), why(2), longest()])

    def test_all_seven_calls(self):
        self.assertEqual(apart(answers(list(self.CALLS))), [
            DONE, timed(0), NO_WAIT, NO_WAIT, DONE, waited(0, 7), told(1),
            timed(7), way(2, 3, 1), NO_ROOM, DONE, REFUSED, waited(0, 0), told(0), REFUSED, REFUSED, REFUSED,
            timed(7), REFUSED, timed(7), way(3), DONE, timed(0), NO_WAIT,
            waited(1, 2), told(1), timed(2), NOT_TOLD, way(1, 0), NOT_TOLD, timed(2)])

    def test_what_is_handed_in_is_not_changed(self):
        calls = list(self.CALLS)
        answers(calls)
        self.assertEqual(calls, self.CALLS)

    def test_not_for_a_while_either(self):
        class Watched(list):
            def changed(self, *given):
                raise AssertionError("what was handed in is changed")
            __setitem__ = __delitem__ = __iadd__ = __imul__ = changed
            append = extend = insert = pop = remove = clear = sort = reverse = changed
        self.assertEqual(answers(Watched(self.CALLS)), answers(list(self.CALLS)))

    def test_a_second_time(self):
        calls = list(self.CALLS)
        first = answers(calls)
        self.assertEqual(answers(calls), first)
        answers(joined([start(1, (NOT, 0, 0, 9)), put(0, 1), wait(), when(1), why(1), longest()]))
        self.assertEqual(answers(calls), first)

    def test_what_is_given_back_is_a_new_list(self):
        first = answers(list(self.CALLS))
        copy = list(first)
        first.clear()
        self.assertEqual(answers(list(self.CALLS)), copy)


class Longest(unittest.TestCase):
    def check(self, calls, expected):
        self.assertEqual(len(calls), 50)
        numbers = joined(calls)
        self.assertLessEqual(len(numbers), 16000)
        self.assertGreater(len(numbers), 15900)
        self.assertEqual(apart(answers(numbers)), expected)

    def test_gets_and_waits(self):
        row = start(1, *[(NAND, place, place, LONGEST) for place in range(3974)])
        calls = [row, put(0, 1), get(3974), wait()] + [get(3974), get(3973)] * 23
        self.check(calls, [DONE, DONE, told(2), waited(0, 3974 * LONGEST)] + [told(1), told(0)] * 23)

    def test_sets_and_waits(self):
        row = start(1, *[(NOT, place, 0, LONGEST) for place in range(3974)])
        calls = [row, wait()] + [put(0, 1), wait(), put(0, 0), wait()] * 12
        self.check(calls, [DONE, waited(0, 3974 * LONGEST)] + [DONE, waited(0, 3974 * LONGEST)] * 24)

    def test_gates_that_all_use_one(self):
        wide = start(1, *[(NOR, 0, 0, LONGEST - place * 7919 % 3974) for place in range(3974)])
        calls = [wide, wait()] + [put(0, 1), wait(), put(0, 0), wait()] * 12
        self.check(calls, [DONE, waited(0, LONGEST)] + [DONE, waited(0, LONGEST)] * 24)

    def test_ways(self):
        row = start(1, *[(NOT, place, 0, LONGEST) for place in range(3974)])
        calls = [row, wait()] + [why(3974, 3975), longest()] * 24
        self.check(calls, [DONE, waited(0, 3974 * LONGEST)]
                   + [way(*range(3974, -1, -1)), timed(3974 * LONGEST)] * 24)

    def test_times_and_ways_between_waits(self):
        row = start(1, *[(NAND, place, place, LONGEST) for place in range(3974)])
        calls = [row, longest(), put(0, 1), wait()] + [when(3974), why(3974, 3974), wait()] * 10
        calls += [put(0, 0), wait(), when(3974), why(3974), longest(), wait(), why(3974, 0), why(3974, 1)] * 2
        time = 3974 * LONGEST
        expected = [DONE, timed(0), DONE, waited(0, time), timed(time), NO_ROOM, waited(0, 0)]
        expected += [timed(0), way(3974), waited(0, 0)] * 9
        expected += [DONE, waited(0, time), timed(time), way(*range(3974, -1, -1)), timed(time), waited(0, 0), NO_ROOM,
                     way(3974)] * 2
        self.check(calls, expected)

    def test_ways_where_all_gates_use_one(self):
        wide = start(1, *[(NOR, 0, 0, 1 + place) for place in range(3974)])
        calls = [wide, wait()] + [when(3974), why(1987, 2)] * 15 + [longest()] * 18
        self.check(calls, [DONE, waited(0, 3974)] + [timed(3974), way(1987, 0)] * 15 + [timed(3974)] * 18)

    def test_starts(self):
        gates = [(NOT, place, 0, 5) for place in range(77)]
        calls = [start(1, *gates)] * 49 + [start(1, *(gates + gates))]
        self.check(calls, [DONE] * 50)


if __name__ == "__main__":
    unittest.main()
