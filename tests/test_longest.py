"""Point 6: tk_longest."""

import unittest

from helper import (ask, start, start_nothing, put, wait, when, longest, waited, timed,
                    DONE, REFUSED, NOT, NAND, LONGEST)
from waitboard.board import Board
from waitboard.net import Gate


class Longest(unittest.TestCase):
    # A wait is 5 behind a set of input 0, 9 behind one of input 1, 300 behind one of input 2.
    NET = start(3, (NOT, 0, 0, 5), (NOT, 1, 0, 9), (NOT, 2, 0, 300))

    def test_before_a_wait(self):
        self.assertEqual(ask(self.NET, longest(), put(0, 1), longest()), [DONE, timed(0), DONE, timed(0)])
        self.assertEqual(ask(start(0), longest()), [DONE, timed(0)])

    def test_behind_a_long_and_then_a_short_wait(self):
        self.assertEqual(ask(self.NET, wait(), longest(), put(0, 1), longest(), wait(), longest(), longest()),
                         [DONE, waited(0, 300), timed(300), DONE, timed(300), waited(0, 5), timed(300), timed(300)])

    def test_behind_a_short_and_then_a_long_wait(self):
        # Once input 0 is 1 the nand hangs on the not that's slow.
        net = start(2, (NAND, 0, 3, 5), (NOT, 1, 0, 40))
        self.assertEqual(ask(net, wait(), longest(), put(0, 1), wait(), longest(), put(1, 1), wait(), longest(),
                             put(0, 0), wait(), longest()),
                         [DONE, waited(0, 40), timed(40), DONE, waited(0, 5), timed(40), DONE, waited(0, 45), timed(45),
                          DONE, waited(0, 0), timed(45)])

    def test_behind_a_wait_that_told_time_0(self):
        self.assertEqual(ask(self.NET, wait(), wait(), longest()), [DONE, waited(0, 300), waited(0, 0), timed(300)])
        self.assertEqual(ask(start(2), put(0, 1), wait(), longest()), [DONE, DONE, waited(0, 0), timed(0)])
        ring = start(0, (NOT, 0, 0, 8))
        self.assertEqual(ask(ring, wait(), longest(), wait(), longest()),
                         [DONE, waited(1, 0), timed(0), waited(1, 0), timed(0)])

    def test_it_changes_nothing(self):
        self.assertEqual(ask(self.NET, longest(), wait(), longest(), when(5), put(0, 1), longest(), wait(), when(3),
                             when(5)),
                         [DONE, timed(0), waited(0, 300), timed(300), timed(300), DONE, timed(300), waited(0, 5),
                          timed(5), timed(0)])


class StartedAgain(unittest.TestCase):
    OLD = [start(1, (NOT, 0, 0, 80)), wait(), longest()]
    OLD_TOLD = [DONE, waited(0, 80), timed(80)]

    def test_answered_0_the_waits_since_alone(self):
        new = [start(1, (NOT, 0, 0, 3)), longest(), wait(), longest(), wait(), longest()]
        self.assertEqual(ask(*(self.OLD + new)),
                         self.OLD_TOLD + [DONE, timed(0), waited(0, 3), timed(3), waited(0, 0), timed(3)])

    def test_refused_nothing_is_changed(self):
        for refused in (start_nothing(0), start_nothing(1025), start(1, (NOT, 0, 0, 0)), start(0, (NOT, 1, 0, 1))):
            self.assertEqual(ask(*(self.OLD + [refused, longest(), wait(), longest()])),
                             self.OLD_TOLD + [REFUSED, timed(80), waited(0, 0), timed(80)])

    def test_behind_a_first_one_that_was_refused(self):
        self.assertEqual(ask(start_nothing(0), self.OLD[0], longest(), wait(), longest()),
                         [REFUSED, DONE, timed(0), waited(0, 80), timed(80)])


class LongRows(unittest.TestCase):
    def test_16384_gates_in_a_row(self):
        board = Board()
        board.tk_start([Gate(NOT, place, 0, LONGEST) for place in range(16384)], 1)
        self.assertEqual(board.tk_longest(), timed(0))
        board.tk_wait()
        board.tk_wait()
        self.assertEqual(board.tk_longest(), timed(16384 * LONGEST))


if __name__ == "__main__":
    unittest.main()
