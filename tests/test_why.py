"""Point 5: tk_why."""

import unittest

from helper import (ask, last, start, start_nothing, put, wait, get, when, why, longest, told, waited, timed, way,
                    DONE, REFUSED, NO_WAIT, NOT_TOLD, NO_ROOM, NOT, NAND, NOR, LONGEST, GREATEST)
from waitboard.board import Board
from waitboard.net import Gate


class Ways(unittest.TestCase):
    # Signals: inputs 0 and 1; 2 follows 0, 3 follows 2, 4 follows 1.
    NET = start(2, (NOT, 0, 0, 5), (NOT, 2, 0, 70), (NOT, 1, 0, 9))

    def test_from_a_gate_to_an_input(self):
        self.assertEqual(ask(self.NET, wait(), why(2), why(3), why(4)),
                         [DONE, waited(0, 75), way(2, 0), way(3, 2, 0), way(4, 1)])

    def test_one_signal_an_input(self):
        self.assertEqual(ask(self.NET, wait(), why(0), why(1), put(1, 1), why(1), wait(), why(1)),
                         [DONE, waited(0, 75), way(0), way(1), DONE, way(1), waited(0, 9), way(1)])

    def test_one_signal_a_gate_whose_time_is_0(self):
        self.assertEqual(ask(self.NET, wait(), put(1, 1), wait(), why(2), why(3), why(4)),
                         [DONE, waited(0, 75), DONE, waited(0, 9), way(2), way(3), way(4, 1)])

    def test_behind_a_second_wait(self):
        self.assertEqual(ask(self.NET, wait(), wait(), why(2), why(3), why(4)),
                         [DONE, waited(0, 75), waited(0, 0), way(2), way(3), way(4)])

    def test_behind_a_set_that_follows_the_wait(self):
        self.assertEqual(ask(self.NET, wait(), put(0, 1), why(3), why(4)),
                         [DONE, waited(0, 75), DONE, way(3, 2, 0), way(4, 1)])

    def test_round_a_latch(self):
        latch = start(2, (NOR, 0, 3, 3), (NOR, 1, 2, 4))
        self.assertEqual(ask(latch, put(1, 1), wait(), why(2), why(3), put(1, 0), wait(), why(2), why(3),
                             put(0, 1), wait(), why(2), why(3)),
                         [DONE, DONE, waited(0, 7), way(2, 3, 1), way(3, 1), DONE, waited(0, 0), way(2), way(3),
                          DONE, waited(0, 7), way(2, 0), way(3, 2, 0)])

    def test_it_changes_nothing(self):
        plain = ask(self.NET, wait(), put(1, 1), get(2), get(4), wait(), longest())
        asked = ask(self.NET, why(3), wait(), why(3), put(1, 1), why(4), get(2), why(3, 1), get(4), wait(), longest())
        self.assertEqual([asked[k] for k in (0, 2, 4, 6, 8, 9, 10)], plain)
        self.assertEqual(ask(self.NET, wait(), why(3), why(3), when(3), why(3)),
                         [DONE, waited(0, 75), way(3, 2, 0), way(3, 2, 0), timed(75), way(3, 2, 0)])


class BothWillDo(unittest.TestCase):
    def test_the_lesser_number_as_a_and_as_b(self):
        for kind in (NAND, NOR):
            for a, b in ((1, 2), (2, 1)):
                for bit in (0, 1):
                    net = start(1, (NOT, 0, 0, 5), (NOT, 0, 0, 5), (kind, a, b, 70))
                    self.assertEqual(ask(net, put(0, bit), wait(), why(3)), [DONE, DONE, waited(0, 75), way(3, 1, 0)])

    def test_of_two_inputs(self):
        for kind in (NAND, NOR):
            for a, b in ((0, 1), (1, 0)):
                for bits in ((0, 0), (0, 1), (1, 0), (1, 1)):
                    net = start(2, (kind, a, b, 6))
                    self.assertEqual(last(net, put(0, bits[0]), put(1, bits[1]), wait(), why(2)), way(2, 0))

    def test_though_only_the_other_one_decides(self):
        # Signals 2 and 3 come at the same time, 3 alone decides; the words ask for the times alone.
        for kind, bits in ((NAND, (0, 1)), (NOR, (1, 0))):
            for a, b in ((2, 3), (3, 2)):
                net = start(2, (NOT, 0, 0, 5), (NOT, 1, 0, 5), (kind, a, b, 70))
                self.assertEqual(last(net, put(0, bits[0]), put(1, bits[1]), wait(), why(4)), way(4, 2, 0))

    def test_an_input_and_a_gate_that_is_always_sure(self):
        # Signal 2 keeps its 1 while input 1 changes; both have time 0.
        for a, b in ((1, 2), (2, 1)):
            net = start(2, (NOT, 0, 0, 5), (NAND, a, b, 70))
            self.assertEqual(ask(net, wait(), put(1, 1), wait(), why(3), why(2))[3:],
                             [waited(0, 70), way(3, 1), way(2)])

    def test_the_lesser_number_at_each_gate(self):
        # Three pairs behind one another: of each pair the lesser is gone by.
        gates = ((NOT, 0, 0, 4), (NAND, 0, 0, 4), (NOR, 2, 1, 4), (NAND, 1, 2, 4), (NOR, 4, 3, 4), (NAND, 4, 3, 4))
        for bit in (0, 1):
            self.assertEqual(last(start(1, *gates), put(0, bit), wait(), why(6)), way(6, 3, 1, 0))


class OneWillDo(unittest.TestCase):
    # Signals 2 and 3 follow the inputs, within 1 and 9; signal 4 uses both.
    def check(self, kind, bits, expected):
        for a, b in ((2, 3), (3, 2)):
            net = start(2, (NOT, 0, 0, 1), (NOT, 1, 0, 9), (kind, a, b, 100))
            self.assertEqual(last(net, put(0, bits[0]), put(1, bits[1]), wait(), why(4)), expected)

    def test_the_later_where_both_are_needed(self):
        self.check(NAND, (0, 0), way(4, 3, 1))
        self.check(NOR, (1, 1), way(4, 3, 1))

    def test_the_later_where_it_decides_and_the_sooner_does_not(self):
        self.check(NAND, (0, 1), way(4, 3, 1))
        self.check(NOR, (1, 0), way(4, 3, 1))

    def test_the_sooner_where_it_decides(self):
        for bits in ((1, 0), (1, 1)):
            self.check(NAND, bits, way(4, 2, 0))
        for bits in ((0, 0), (0, 1)):
            self.check(NOR, bits, way(4, 2, 0))

    def test_the_other_one_is_never_told(self):
        # Signal 1 never rests, and has the lesser number.
        for kind, bit in ((NAND, 1), (NOR, 0)):
            for a, b in ((1, 2), (2, 1)):
                for most in (1, 2, 70):
                    net = start(1, (NOT, 1, 0, 1), (NOT, 0, 0, 1), (kind, a, b, most))
                    self.assertEqual(ask(net, put(0, bit), wait(), why(3), why(1)),
                                     [DONE, DONE, waited(1, most + 1), way(3, 2, 0), NOT_TOLD])

    def test_straight_from_an_input_beside_what_is_never_told(self):
        # Were never a time just before 0, most 1 would make it look like one that will do.
        for kind, bit in ((NAND, 0), (NOR, 1)):
            for most in (1, 2, LONGEST):
                for a, b in ((0, 1), (1, 0)):
                    net = start(1, (NOT, 1, 0, 1), (kind, a, b, most))
                    self.assertEqual(last(net, put(0, bit), wait(), why(2)), way(2, 0))

    def test_one_signal_twice(self):
        for kind in (NAND, NOR):
            for bit in (0, 1):
                self.assertEqual(ask(start(1, (NOT, 0, 0, 30), (kind, 1, 1, 5)), put(0, bit), wait(), why(2)),
                                 [DONE, DONE, waited(0, 35), way(2, 1, 0)])

    def test_itself_and_another(self):
        for a, b in ((0, 1), (1, 0)):
            self.assertEqual(last(start(1, (NAND, a, b, 5)), wait(), why(1)), way(1, 0))
            self.assertEqual(last(start(1, (NOR, a, b, 5)), put(0, 1), wait(), why(1)), way(1, 0))


class Nots(unittest.TestCase):
    def test_b_is_no_signal(self):
        for b in (3, 4, GREATEST):
            self.assertEqual(ask(start(1, (NOT, 0, b, 5), (NOT, 1, b, 7)), wait(), why(1), why(2)),
                             [DONE, waited(0, 12), way(1, 0), way(2, 1, 0)])

    def test_b_is_a_signal_that_would_do(self):
        # Signals 1 and 2 come at the same time, but b isn't looked at.
        net = start(1, (NOT, 0, 0, 5), (NOT, 0, 0, 5), (NOT, 2, 1, 70))
        self.assertEqual(ask(net, wait(), why(3)), [DONE, waited(0, 75), way(3, 2, 0)])


class Room(unittest.TestCase):
    NET = start(2, (NOT, 0, 0, 5), (NOT, 2, 0, 70), (NOT, 4, 0, 1))

    def test_just_enough_and_one_too_little(self):
        for signal, found in ((0, way(0)), (2, way(2, 0)), (3, way(3, 2, 0))):
            length = found[1]
            for room in (length, length + 1, GREATEST):
                self.assertEqual(last(self.NET, wait(), why(signal, room)), found)
            for room in (length - 1, 0):
                self.assertEqual(last(self.NET, wait(), why(signal, room)), NO_ROOM)

    def test_a_gate_whose_time_is_0(self):
        self.assertEqual(ask(self.NET, wait(), wait(), why(3, 1), why(3, 0)),
                         [DONE, waited(1, 75), waited(1, 0), way(3), NO_ROOM])


class Refused(unittest.TestCase):
    NET = Room.NET

    def test_no_signal(self):
        for signal in (5, 6, GREATEST):
            for room in (0, 1, GREATEST):
                self.assertEqual(ask(self.NET, why(signal, room), wait(), why(signal, room)),
                                 [DONE, REFUSED, waited(1, 75), REFUSED])
        self.assertEqual(ask(start(0), why(0, 0), wait(), why(0, 0)), [DONE, REFUSED, waited(0, 0), REFUSED])

    def test_there_was_no_wait(self):
        for signal in (0, 1, 2, 3, 4):
            for room in (0, 1, GREATEST):
                self.assertEqual(ask(self.NET, why(signal, room), put(0, 1), why(signal, room)),
                                 [DONE, NO_WAIT, DONE, NO_WAIT])

    def test_it_is_not_told(self):
        for room in (0, 1, GREATEST):
            self.assertEqual(ask(self.NET, wait(), why(4, room), put(0, 1), wait(), why(4, room)),
                             [DONE, waited(1, 75), NOT_TOLD, DONE, waited(1, 75), NOT_TOLD])

    def test_which_one_where_several_are_due(self):
        # Named in this order: no signal, no wait, not told, longer than room.
        self.assertEqual(ask(self.NET, why(5, 0), why(4, 0), why(3, 0), wait(), why(5, 0), why(4, 0), why(3, 0)),
                         [DONE, REFUSED, NO_WAIT, NO_WAIT, waited(1, 75), REFUSED, NOT_TOLD, NO_ROOM])

    def test_nothing_is_changed(self):
        for refused, answer in ((why(5), REFUSED), (why(4), NOT_TOLD), (why(3, 2), NO_ROOM), (why(0, 0), NO_ROOM)):
            self.assertEqual(ask(self.NET, wait(), put(0, 1), refused, get(0), get(2), why(3), when(3), wait(), get(2)),
                             [DONE, waited(1, 75), DONE, answer, told(1), told(2), way(3, 2, 0), timed(75),
                              waited(1, 75), told(0)])
        self.assertEqual(ask(self.NET, put(0, 1), why(3), get(0), get(2), why(3), wait(), get(2)),
                         [DONE, DONE, NO_WAIT, told(1), told(2), NO_WAIT, waited(1, 75), told(0)])


class StartedAgain(unittest.TestCase):
    OLD = [start(1, (NOT, 0, 0, 5), (NOT, 1, 0, 7)), wait(), put(0, 1), wait()]

    def test_answered_0_there_was_no_wait_since(self):
        new = [start(1, (NOT, 0, 0, 8)), why(0), why(1), why(2), put(0, 1), why(1), wait(), why(1), why(2)]
        self.assertEqual(ask(*(self.OLD + new))[4:],
                         [DONE, NO_WAIT, NO_WAIT, REFUSED, DONE, NO_WAIT, waited(0, 8), way(1, 0), REFUSED])

    def test_refused_it_is_as_before(self):
        for refused in (start_nothing(0), start_nothing(1025), start(1, (NOT, 0, 0, 0)), start(0, (NOT, 1, 0, 1))):
            self.assertEqual(ask(*(self.OLD + [refused, why(0), why(1), why(2, 3), why(2, 2), why(3)]))[4:],
                             [REFUSED, way(0), way(1, 0), way(2, 1, 0), NO_ROOM, REFUSED])
            self.assertEqual(ask(self.OLD[0], refused, why(2), wait(), why(2)),
                             [DONE, REFUSED, NO_WAIT, waited(0, 12), way(2, 1, 0)])


class LongWays(unittest.TestCase):
    def test_as_long_as_may_be_handed_in(self):
        row = start(1, *[(NOT, place, 0, LONGEST) for place in range(3974)])
        self.assertEqual(ask(row, wait(), why(3974, 3975), why(3974, 3974)),
                         [DONE, waited(0, 3974 * LONGEST), way(*range(3974, -1, -1)), NO_ROOM])

    def test_told_from_its_end(self):
        row = start(1, *[(NAND, place + 2, place + 2, LONGEST) for place in range(3973)], (NOR, 0, 0, LONGEST))
        self.assertEqual(last(row, wait(), why(1, 3975)), way(*range(1, 3975), 0))

    def test_16384_gates_in_a_row(self):
        board = Board()
        board.tk_start([Gate(NOT, place, 0, LONGEST) for place in range(16384)], 1)
        board.tk_wait()
        self.assertEqual(board.tk_why(16384, 16385), way(*range(16384, -1, -1)))
        self.assertEqual(board.tk_why(16384, 16384), NO_ROOM)
        self.assertEqual(board.tk_why(16385, 16385), REFUSED)


if __name__ == "__main__":
    unittest.main()
