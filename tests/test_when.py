"""Point 5: tk_when."""

import unittest

from helper import (ask, last, start, start_nothing, put, wait, get, when, why, longest, told, waited, timed,
                    DONE, REFUSED, NO_WAIT, NOT_TOLD, NOT, NAND, NOR, LONGEST, GREATEST)
from waitboard.board import Board
from waitboard.net import Gate


class When(unittest.TestCase):
    # Signals: inputs 0 and 1; 2 follows 0, 3 follows 2, 4 follows 1.
    NET = start(2, (NOT, 0, 0, 5), (NOT, 2, 0, 70), (NOT, 1, 0, 9))

    def test_of_a_gate(self):
        self.assertEqual(ask(self.NET, wait(), when(2), when(3), when(4)),
                         [DONE, waited(0, 75), timed(5), timed(75), timed(9)])

    def test_of_an_input(self):
        self.assertEqual(ask(self.NET, wait(), when(0), when(1), put(0, 1), wait(), when(0), when(1)),
                         [DONE, waited(0, 75), timed(0), timed(0), DONE, waited(0, 75), timed(0), timed(0)])

    def test_of_a_gate_that_is_always_sure(self):
        self.assertEqual(ask(self.NET, wait(), put(1, 1), wait(), when(2), when(3), when(4)),
                         [DONE, waited(0, 75), DONE, waited(0, 9), timed(0), timed(0), timed(9)])
        # Input 1 holds the nand, though the other signal that it uses isn't sure.
        held = start(2, (NOT, 0, 0, 5), (NAND, 1, 2, 70))
        self.assertEqual(ask(held, wait(), when(3), put(0, 1), wait(), when(2), when(3)),
                         [DONE, waited(0, 70), timed(70), DONE, waited(0, 5), timed(5), timed(0)])

    def test_behind_a_set_that_follows_the_wait(self):
        self.assertEqual(ask(self.NET, wait(), put(0, 1), when(0), when(2), when(3), when(4)),
                         [DONE, waited(0, 75), DONE, timed(0), timed(5), timed(75), timed(9)])

    def test_behind_a_second_wait(self):
        self.assertEqual(ask(self.NET, wait(), wait(), when(0), when(2), when(3), when(4)),
                         [DONE, waited(0, 75), waited(0, 0), timed(0), timed(0), timed(0), timed(0)])

    def test_the_last_wait_alone(self):
        self.assertEqual(ask(self.NET, wait(), put(1, 1), wait(), when(3), put(0, 1), wait(), when(3), when(4)),
                         [DONE, waited(0, 75), DONE, waited(0, 9), timed(0), DONE, waited(0, 75), timed(75), timed(0)])

    def test_by_the_sooner_and_by_the_later(self):
        # Signals 2 and 3 follow the inputs, within 1 and 9; a nand and a nor use both.
        net = start(2, (NOT, 0, 0, 1), (NOT, 1, 0, 9), (NAND, 2, 3, 100), (NOR, 3, 2, 100))
        for bits, times in (((0, 0), (109, 101)), ((0, 1), (109, 101)), ((1, 0), (101, 109)), ((1, 1), (101, 109))):
            answered = ask(net, put(0, bits[0]), put(1, bits[1]), wait(), when(4), when(5))
            self.assertEqual(answered[-2:], [timed(times[0]), timed(times[1])], bits)

    def test_it_changes_nothing(self):
        plain = ask(self.NET, wait(), put(1, 1), get(2), get(4), wait(), longest())
        asked = ask(self.NET, when(3), wait(), when(3), put(1, 1), when(4), get(2), when(9), get(4), wait(), longest())
        self.assertEqual([asked[k] for k in (0, 2, 4, 6, 8, 9, 10)], plain)


class Refused(unittest.TestCase):
    NET = start(2, (NOT, 0, 0, 5), (NOT, 3, 0, 7))

    def test_no_signal(self):
        for signal in (4, 5, 1000, GREATEST):
            self.assertEqual(ask(self.NET, when(signal), wait(), when(signal)), [DONE, REFUSED, waited(1, 5), REFUSED])

    def test_there_is_no_signal_at_all(self):
        self.assertEqual(ask(start(0), when(0), wait(), when(0)), [DONE, REFUSED, waited(0, 0), REFUSED])

    def test_there_was_no_wait(self):
        for signal in (0, 1, 2, 3):
            self.assertEqual(ask(self.NET, when(signal), put(0, 1), when(signal)), [DONE, NO_WAIT, DONE, NO_WAIT])

    def test_it_is_not_told(self):
        self.assertEqual(ask(self.NET, wait(), when(3), when(2), put(0, 1), when(3), wait(), when(3), wait(), when(3)),
                         [DONE, waited(1, 5), NOT_TOLD, timed(5), DONE, NOT_TOLD, waited(1, 5), NOT_TOLD,
                          waited(1, 0), NOT_TOLD])

    def test_it_is_told_no_more_and_told_again(self):
        latch = start(2, (NOR, 0, 3, 3), (NOR, 1, 2, 4))
        self.assertEqual(ask(latch, put(0, 1), put(1, 1), wait(), when(2), when(3), put(0, 0), put(1, 0), when(2),
                             wait(), when(2), when(3), when(0), put(0, 1), when(2), wait(), when(2), when(3)),
                         [DONE, DONE, DONE, waited(0, 4), timed(3), timed(4), DONE, DONE, timed(3),
                          waited(2, 0), NOT_TOLD, NOT_TOLD, timed(0), DONE, NOT_TOLD, waited(0, 7), timed(3), timed(7)])

    def test_no_signal_before_that_there_was_no_wait(self):
        self.assertEqual(last(self.NET, when(4)), REFUSED)

    def test_nothing_is_changed(self):
        for refused, answer in ((when(4), REFUSED), (when(GREATEST), REFUSED), (when(3), NOT_TOLD)):
            self.assertEqual(ask(self.NET, wait(), put(0, 1), refused, get(0), get(2), when(2), wait(), get(2)),
                             [DONE, waited(1, 5), DONE, answer, told(1), told(2), timed(5), waited(1, 5), told(0)])
        self.assertEqual(ask(self.NET, put(0, 1), when(2), when(2), get(0), get(2), wait(), get(2)),
                         [DONE, DONE, NO_WAIT, NO_WAIT, told(1), told(2), waited(1, 5), told(0)])


class StartedAgain(unittest.TestCase):
    OLD = [start(1, (NOT, 0, 0, 5), (NOT, 1, 0, 7)), wait(), put(0, 1), wait()]

    def test_answered_0_there_was_no_wait_since(self):
        new = [start(1, (NOT, 0, 0, 8)), when(0), when(1), when(2), why(0), why(1), why(2), wait(), when(1), when(2)]
        self.assertEqual(ask(*(self.OLD + new))[4:],
                         [DONE, NO_WAIT, NO_WAIT, REFUSED, NO_WAIT, NO_WAIT, REFUSED, waited(0, 8), timed(8), REFUSED])

    def test_answered_0_with_the_same_gates(self):
        self.assertEqual(ask(*(self.OLD + [self.OLD[0], when(0), when(2), why(2), wait(), when(2)]))[4:],
                         [DONE, NO_WAIT, NO_WAIT, NO_WAIT, waited(0, 12), timed(12)])

    def test_refused_it_is_as_before(self):
        for refused in (start_nothing(0), start_nothing(1025), start(1, (NOT, 0, 0, 0)), start(0, (NOT, 1, 0, 1))):
            self.assertEqual(ask(*(self.OLD + [refused, when(0), when(1), when(2), when(3)]))[4:],
                             [REFUSED, timed(0), timed(5), timed(12), REFUSED])
            self.assertEqual(ask(self.OLD[0], refused, when(2), wait(), when(2)),
                             [DONE, REFUSED, NO_WAIT, waited(0, 12), timed(12)])


class LongRows(unittest.TestCase):
    def test_as_long_as_may_be_handed_in(self):
        row = start(1, *[(NOT, place, 0, LONGEST) for place in range(3974)])
        self.assertEqual(ask(row, wait(), when(3974), when(1987), when(1))[2:],
                         [timed(3974 * LONGEST), timed(1987 * LONGEST), timed(LONGEST)])

    def test_16384_gates_in_a_row(self):
        board = Board()
        board.tk_start([Gate(NOT, place, 0, LONGEST) for place in range(16384)], 1)
        self.assertEqual(board.tk_when(16384), NO_WAIT)
        board.tk_wait()
        for signal in (0, 1, 8192, 16384):
            self.assertEqual(board.tk_when(signal), timed(signal * LONGEST))
        self.assertEqual(board.tk_when(16385), REFUSED)


if __name__ == "__main__":
    unittest.main()
