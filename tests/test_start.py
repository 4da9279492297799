"""Point 1: tk_start."""

import unittest

from helper import (ask, last, start, start_nothing, put, wait, get, told, waited,
                    DONE, REFUSED, NOT, NAND, NOR, LONGEST, GREATEST)
from waitboard.board import Board
from waitboard.net import Gate


class Taken(unittest.TestCase):
    def test_gates_and_inputs(self):
        self.assertEqual(ask(start(2, (NAND, 0, 1, 5), (NOR, 2, 0, 1), (NOT, 3, 0, 9))), [DONE])

    def test_no_gate_and_no_input(self):
        self.assertEqual(ask(start(0)), [DONE])
        self.assertEqual(ask(start(3)), [DONE])
        self.assertEqual(ask(start(0, (NOT, 0, 0, 1))), [DONE])

    def test_1024_inputs(self):
        self.assertEqual(ask(start(1024), get(1023), get(1024)), [DONE, told(0), REFUSED])

    def test_16384_gates(self):
        board = Board()
        self.assertEqual(board.tk_start([Gate(NOT, 0, 0, 1) for place in range(16384)], 1), DONE)

    def test_the_last_signal_and_the_gate_itself_may_be_used(self):
        self.assertEqual(ask(start(1, (NAND, 2, 2, 1), (NOR, 2, 1, 1))), [DONE])

    def test_b_of_a_not_is_not_looked_at(self):
        for b in (2, 3, GREATEST):
            self.assertEqual(ask(start(1, (NOT, 0, b, 4)), wait(), get(1)), [DONE, waited(0, 4), told(1)])

    def test_most_at_its_edges(self):
        self.assertEqual(last(start(1, (NOT, 0, 0, 1)), wait()), waited(0, 1))
        self.assertEqual(last(start(1, (NOT, 0, 0, LONGEST)), wait()), waited(0, LONGEST))


class Refused(unittest.TestCase):
    def test_nothing(self):
        for inputs in (0, 1, 1024):
            self.assertEqual(ask(start_nothing(inputs)), [REFUSED])

    def test_1025_inputs(self):
        for inputs in (1025, GREATEST):
            self.assertEqual(ask(start_nothing(inputs)), [REFUSED])
            self.assertEqual(Board().tk_start([], inputs), REFUSED)

    def test_16385_gates(self):
        self.assertEqual(Board().tk_start([Gate(NOT, 0, 0, 1) for place in range(16385)], 1), REFUSED)

    def test_kind_above_2(self):
        for kind in (3, 4, GREATEST):
            self.assertEqual(ask(start(2, (kind, 0, 1, 1))), [REFUSED])

    def test_a_no_signal(self):
        for kind in (NOT, NAND, NOR):
            for a in (3, 4, GREATEST):
                self.assertEqual(ask(start(2, (kind, a, 1, 1))), [REFUSED])

    def test_b_no_signal(self):
        for kind in (NAND, NOR):
            for b in (3, 4, GREATEST):
                self.assertEqual(ask(start(2, (kind, 1, b, 1))), [REFUSED])

    def test_most_0(self):
        for kind in (NOT, NAND, NOR):
            self.assertEqual(ask(start(2, (kind, 0, 1, 0))), [REFUSED])

    def test_any_gate_of_several(self):
        good = (NAND, 0, 1, 1)
        for bad in ((3, 0, 1, 1), (NOT, 5, 0, 1), (NOR, 0, 5, 1), (NAND, 0, 1, 0)):
            for gates in ((bad, good, good), (good, bad, good), (good, good, bad)):
                self.assertEqual(ask(start(2, *gates)), [REFUSED])


class Again(unittest.TestCase):
    def test_behind_a_refused_one(self):
        self.assertEqual(ask(start_nothing(0), start(1, (NOT, 1, 0, 0)), start(1, (NOT, 0, 0, 2)), wait()),
                         [REFUSED, REFUSED, DONE, waited(0, 2)])

    def test_answered_0_all_is_new(self):
        old = [start(2, (NOT, 0, 0, 2)), put(0, 1), put(1, 1), wait(), get(2)]
        new = [start(2, (NOT, 0, 0, 3)), get(0), get(1), get(2), wait(), get(2)]
        self.assertEqual(ask(*(old + new)),
                         [DONE, DONE, DONE, waited(0, 2), told(0),
                          DONE, told(0), told(0), told(2), waited(0, 3), told(1)])

    def test_answered_0_other_gates_and_inputs(self):
        self.assertEqual(ask(start(2, (NOT, 0, 0, 2)), start(1), get(0), get(1), put(1, 1), wait()),
                         [DONE, DONE, told(0), REFUSED, REFUSED, waited(0, 0)])

    def test_refused_nothing_is_changed(self):
        before = [start(2, (NOT, 0, 0, 2), (NOT, 1, 0, 7)), put(1, 1), wait(), put(0, 1)]
        behind = [get(0), get(1), get(2), get(3), wait(), get(2), get(3), get(4)]
        answered = [told(1), told(1), told(2), told(0), waited(0, 2), told(0), told(0), REFUSED]
        for refused in (start_nothing(0), start_nothing(1025), start(9, (NOT, 0, 0, 0)), start(0, (NOT, 1, 0, 1))):
            self.assertEqual(ask(*(before + [refused] + behind)),
                             [DONE, DONE, waited(0, 7), DONE, REFUSED] + answered)


if __name__ == "__main__":
    unittest.main()
