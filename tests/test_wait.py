"""Point 3: tk_wait."""

import unittest

from helper import ask, last, start, put, wait, get, told, waited, DONE, NOT, NAND, NOR, LONGEST
from waitboard.board import Board
from waitboard.net import Gate


class Kinds(unittest.TestCase):
    def test_what_each_kind_comes_to(self):
        tables = {NOT: (1, 1, 0, 0), NAND: (1, 1, 1, 0), NOR: (1, 0, 0, 0)}
        for kind, table in tables.items():
            for k, bit in enumerate(table):
                self.assertEqual(ask(start(2, (kind, 0, 1, 6)), put(0, k // 2), put(1, k % 2), wait(), get(2)),
                                 [DONE, DONE, DONE, waited(0, 6), told(bit)])

    def test_what_each_kind_comes_to_beside_what_is_not_sure(self):
        # Signal 1 never rests.
        tables = {NOT: (1, 0), NAND: (1, 2), NOR: (2, 0)}
        for kind, table in tables.items():
            for bit, end in enumerate(table):
                for a, b in ((0, 1), (1, 0)) if kind != NOT else ((0, 1),):
                    self.assertEqual(ask(start(1, (NOT, 1, 0, 5), (kind, a, b, 6)), put(0, bit), wait(), get(2)),
                                     [DONE, DONE, waited(2, 0) if end == 2 else waited(1, 6), told(end)])

    def test_a_not_of_what_is_not_sure(self):
        self.assertEqual(ask(start(0, (NOT, 0, 0, 5), (NOT, 0, 0, 6)), wait(), get(1)), [DONE, waited(2, 0), told(2)])


class Nothing(unittest.TestCase):
    def test_no_gate(self):
        self.assertEqual(ask(start(0), wait()), [DONE, waited(0, 0)])
        self.assertEqual(ask(start(2), put(1, 1), wait(), get(1)), [DONE, DONE, waited(0, 0), told(1)])

    def test_no_input(self):
        self.assertEqual(ask(start(0, (NAND, 0, 0, 5)), wait()), [DONE, waited(1, 0)])


class Latches(unittest.TestCase):
    # Signals of both: inputs 0 and 1, gates 2 and 3, each of which uses the other.
    NORS = start(2, (NOR, 0, 3, 3), (NOR, 1, 2, 4))
    NANDS = start(2, (NAND, 0, 3, 3), (NAND, 1, 2, 4))

    def test_set_and_reset(self):
        self.assertEqual(ask(self.NORS, put(1, 1), wait(), get(2), get(3), put(1, 0), get(2), get(3), wait(), get(2)),
                         [DONE, DONE, waited(0, 7), told(1), told(0), DONE, told(1), told(0), waited(0, 0), told(1)])
        self.assertEqual(ask(self.NORS, put(0, 1), wait(), put(0, 0), wait(), get(2), put(1, 1), get(2), get(3),
                             wait(), get(2), get(3)),
                         [DONE, DONE, waited(0, 7), DONE, waited(0, 0), told(0), DONE, told(2), told(2),
                          waited(0, 7), told(1), told(0)])

    def test_nors_whose_both_inputs_are_1(self):
        self.assertEqual(ask(self.NORS, put(0, 1), put(1, 1), wait(), get(2), get(3)),
                         [DONE, DONE, DONE, waited(0, 4), told(0), told(0)])

    def test_nors_whose_both_inputs_go_to_0_together(self):
        self.assertEqual(ask(self.NORS, put(0, 1), put(1, 1), wait(), put(0, 0), put(1, 0), wait(), get(2), get(3)),
                         [DONE, DONE, DONE, waited(0, 4), DONE, DONE, waited(2, 0), told(2), told(2)])

    def test_nors_whose_inputs_go_to_0_one_behind_another(self):
        self.assertEqual(ask(self.NORS, put(0, 1), put(1, 1), wait(), put(0, 0), wait(), put(1, 0), wait(), get(2)),
                         [DONE, DONE, DONE, waited(0, 4), DONE, waited(0, 3), DONE, waited(0, 0), told(1)])

    def test_nands_whose_both_inputs_are_1_sure(self):
        self.assertEqual(ask(self.NANDS, put(1, 1), wait(), get(2), get(3), put(0, 1), wait(), get(2), get(3)),
                         [DONE, DONE, waited(0, 7), told(1), told(0), DONE, waited(0, 0), told(1), told(0)])

    def test_nands_whose_both_inputs_are_1_not_sure(self):
        self.assertEqual(ask(self.NANDS, put(0, 1), put(1, 1), wait(), get(2), get(3)),
                         [DONE, DONE, DONE, waited(2, 0), told(2), told(2)])

    def test_not_sure_till_it_is_set(self):
        self.assertEqual(ask(self.NORS, wait(), wait(), get(2), put(0, 1), wait(), get(2), get(3)),
                         [DONE, waited(2, 0), waited(2, 0), told(2), DONE, waited(0, 7), told(0), told(1)])


class Phase(unittest.TestCase):
    # Inputs: 0 what's kept, 1 the phase; gate 5 keeps.
    LATCH = start(2, (NOT, 0, 0, 1), (NAND, 0, 1, 2), (NAND, 2, 1, 3), (NAND, 3, 6, 4), (NAND, 4, 5, 5))

    def test_opened_and_closed(self):
        self.assertEqual(ask(self.LATCH, put(0, 1), put(1, 1), wait(), get(5),
                             put(1, 0), get(3), get(4), get(5), get(6), wait(),
                             put(0, 0), get(5), wait(), get(5),
                             put(1, 1), get(5), wait(), get(5), get(6),
                             put(1, 0), wait(), get(5)),
                         [DONE, DONE, DONE, waited(0, 11), told(1),
                          DONE, told(2), told(1), told(1), told(0), waited(0, 2),
                          DONE, told(1), waited(0, 1), told(1),
                          DONE, told(2), waited(0, 12), told(0), told(1),
                          DONE, waited(0, 3), told(0)])

    def test_closed_from_the_start(self):
        self.assertEqual(ask(self.LATCH, wait(), get(5), get(4)), [DONE, waited(2, 3), told(2), told(1)])

    def test_what_is_kept_changes_while_it_closes(self):
        self.assertEqual(last(self.LATCH, put(0, 1), put(1, 1), wait(), put(1, 0), put(0, 0), wait()), waited(2, 3))

    def test_a_latch_that_a_phase_may_spoil(self):
        # The second nand hangs on the first: while the phase is loose it isn't sure, and so nothing is kept.
        spoilt = start(2, (NAND, 0, 1, 2), (NAND, 2, 1, 3), (NAND, 2, 5, 4), (NAND, 3, 4, 5))
        self.assertEqual(ask(spoilt, put(0, 1), put(1, 1), wait(), get(4), put(1, 0), get(4), wait(), get(4)),
                         [DONE, DONE, DONE, waited(0, 11), told(1), DONE, told(2), waited(2, 3), told(2)])


class Rings(unittest.TestCase):
    def test_three_nots(self):
        ring = start(0, (NOT, 2, 0, 1), (NOT, 0, 0, 2), (NOT, 1, 0, 3))
        self.assertEqual(ask(ring, wait(), get(0), get(1), get(2)), [DONE, waited(3, 0), told(2), told(2), told(2)])

    def test_two_nots(self):
        self.assertEqual(ask(start(0, (NOT, 1, 0, 1), (NOT, 0, 0, 2)), wait()), [DONE, waited(2, 0)])

    def test_never_rests_beside_a_gate_that_does(self):
        beside = start(1, (NAND, 0, 1, 7), (NOT, 0, 0, 3))
        self.assertEqual(ask(beside, wait(), put(0, 1), get(1), wait(), get(1), get(2), wait(), put(0, 0), wait(),
                             get(1)),
                         [DONE, waited(0, 7), DONE, told(2), waited(1, 3), told(2), told(0), waited(1, 0), DONE,
                          waited(0, 7), told(1)])

    def test_a_ring_that_is_stopped(self):
        ring = start(1, (NAND, 0, 3, 1), (NOT, 1, 0, 20), (NOT, 2, 0, 300))
        self.assertEqual(ask(ring, wait(), put(0, 1), wait(), put(0, 0), wait(), get(1), get(2), get(3)),
                         [DONE, waited(0, 321), DONE, waited(3, 0), DONE, waited(0, 321), told(1), told(0), told(1)])


class Soonest(unittest.TestCase):
    # Signal 2 follows input 0 within 1, signal 3 follows input 1 within 9; signal 4 uses both.
    def pair(self, kind, first, second):
        return start(2, (NOT, 0, 0, 1), (NOT, 1, 0, 9), (kind, first, second, 100))

    def check(self, kind, bits, time, end):
        for first, second in ((2, 3), (3, 2)):
            self.assertEqual(ask(self.pair(kind, first, second), put(0, bits[0]), put(1, bits[1]), wait(), get(4)),
                             [DONE, DONE, DONE, waited(0, time), told(end)])

    def test_nand(self):
        self.check(NAND, (1, 1), 101, 1)
        self.check(NAND, (1, 0), 101, 1)
        self.check(NAND, (0, 1), 109, 1)
        self.check(NAND, (0, 0), 109, 0)

    def test_nor(self):
        self.check(NOR, (0, 0), 101, 0)
        self.check(NOR, (0, 1), 101, 0)
        self.check(NOR, (1, 0), 109, 0)
        self.check(NOR, (1, 1), 109, 1)

    def test_by_the_slower_alone_beside_what_never_rests(self):
        for kind, bit in ((NAND, 1), (NOR, 0)):
            self.assertEqual(ask(start(1, (NOT, 0, 0, 9), (NOT, 2, 0, 1), (kind, 1, 2, 100)), put(0, bit), wait()),
                             [DONE, DONE, waited(1, 109)])

    def test_by_the_sooner_though_more_gates_lead_there(self):
        # Signal 1 takes 50, but 2, 3 and 4 behind one another only 30.
        gates = ((NOT, 0, 0, 50), (NOT, 0, 0, 10), (NOT, 2, 0, 10), (NOT, 3, 0, 10))
        for kind, sooner in ((NAND, 1), (NOR, 0)):
            net = start(1, *gates, (kind, 1, 4, 60))
            self.assertEqual(last(net, put(0, sooner), wait()), waited(0, 90))
            self.assertEqual(last(net, put(0, 1 - sooner), wait()), waited(0, 110))

    def test_gates_told_in_any_order(self):
        self.assertEqual(last(start(1, (NOT, 2, 0, 1), (NOT, 3, 0, 20), (NOT, 0, 0, 300)), wait()), waited(0, 321))

    def test_what_is_always_so_takes_no_time(self):
        # Input 1 holds the nand, whatever's set on 0; the not behind it is sure, too.
        gates = ((NOT, 0, 0, 5), (NAND, 1, 2, 70), (NOT, 3, 0, 800))
        self.assertEqual(ask(start(2, *gates), wait(), put(0, 1), get(2), get(3), get(4), wait()),
                         [DONE, waited(0, 870), DONE, told(2), told(1), told(0), waited(0, 5)])

    def test_the_same_in_the_end_but_not_always(self):
        # While 0 is loose so is the nor of it and its not, though in the end it's 0 each time.
        gates = ((NOT, 0, 0, 5), (NOR, 0, 1, 70))
        self.assertEqual(ask(start(1, *gates), wait(), get(2), put(0, 1), get(2), wait(), get(2)),
                         [DONE, waited(0, 75), told(0), DONE, told(2), waited(0, 70), told(0)])


class Twice(unittest.TestCase):
    def test_one_signal_twice(self):
        for kind in (NAND, NOR):
            for bit in (0, 1):
                self.assertEqual(ask(start(1, (kind, 0, 0, 5)), put(0, bit), wait(), get(1)),
                                 [DONE, DONE, waited(0, 5), told(1 - bit)])

    def test_one_slow_signal_twice(self):
        for kind in (NAND, NOR):
            for bit in (0, 1):
                self.assertEqual(ask(start(1, (NOT, 0, 0, 30), (kind, 1, 1, 5)), put(0, bit), wait(), get(2)),
                                 [DONE, DONE, waited(0, 35), told(bit)])

    def test_itself(self):
        for gate in ((NOT, 0, 0, 5), (NAND, 0, 0, 5), (NOR, 0, 0, 5)):
            self.assertEqual(ask(start(0, gate), wait(), get(0)), [DONE, waited(1, 0), told(2)])

    def test_itself_and_another(self):
        for gate in ((NAND, 0, 1, 5), (NAND, 1, 0, 5)):
            self.assertEqual(ask(start(1, gate), put(0, 0), wait(), put(0, 1), wait(), get(1)),
                             [DONE, DONE, waited(0, 5), DONE, waited(1, 0), told(2)])
        for gate in ((NOR, 0, 1, 5), (NOR, 1, 0, 5)):
            self.assertEqual(ask(start(1, gate), put(0, 1), wait(), get(1), put(0, 0), wait(), get(1)),
                             [DONE, DONE, waited(0, 5), told(0), DONE, waited(1, 0), told(2)])


class LongRows(unittest.TestCase):
    def test_as_long_as_may_be_handed_in(self):
        row = start(1, *[(NOT, place, 0, LONGEST) for place in range(3974)])
        self.assertEqual(ask(row, wait(), get(3974), put(0, 1), get(3974), wait(), get(3974), get(3973), wait()),
                         [DONE, waited(0, 3974 * LONGEST), told(0), DONE, told(2), waited(0, 3974 * LONGEST),
                          told(1), told(0), waited(0, 0)])

    def test_told_from_its_end(self):
        row = start(1, *[(NAND, place + 2, place + 2, LONGEST) for place in range(3973)], (NOR, 0, 0, LONGEST))
        self.assertEqual(ask(row, wait(), get(1), put(0, 1), get(1), wait(), get(1)),
                         [DONE, waited(0, 3974 * LONGEST), told(0), DONE, told(2), waited(0, 3974 * LONGEST), told(1)])

    def test_16384_gates_in_a_row(self):
        board = Board()
        self.assertEqual(board.tk_start([Gate(NOT, place, 0, LONGEST) for place in range(16384)], 1), DONE)
        self.assertEqual(board.tk_wait(), waited(0, 16384 * LONGEST))
        self.assertEqual(board.tk_set(0, 1), DONE)
        self.assertEqual(board.tk_get(16384), told(2))
        self.assertEqual(board.tk_wait(), waited(0, 16384 * LONGEST))
        self.assertEqual(board.tk_get(16384), told(1))


class Again(unittest.TestCase):
    def test_behind_a_wait_with_nothing_set(self):
        gates = ((NOT, 0, 0, 5), (NOT, 2, 0, 7), (NAND, 1, 0, 9))
        self.assertEqual(ask(start(1, *gates), wait(), wait(), get(1), get(2), get(3), put(0, 1), wait(), wait(),
                             wait(), get(1), get(3)),
                         [DONE, waited(1, 9), waited(1, 0), told(1), told(2), told(1), DONE, waited(1, 14),
                          waited(1, 0), waited(1, 0), told(0), told(1)])


if __name__ == "__main__":
    unittest.main()
