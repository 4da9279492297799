"""Point 4: tk_get."""

import unittest

from helper import ask, start, put, wait, get, told, waited, DONE, REFUSED, NOT, NAND, GREATEST


class Get(unittest.TestCase):
    GATES = start(2, (NAND, 0, 1, 5), (NOT, 2, 0, 7))

    def test_before_the_first_wait(self):
        self.assertEqual(ask(self.GATES, get(0), get(1), get(2), get(3), put(0, 1), get(0), get(1), get(2), get(3)),
                         [DONE, told(0), told(0), told(2), told(2), DONE, told(1), told(0), told(2), told(2)])

    def test_behind_a_wait(self):
        self.assertEqual(ask(self.GATES, put(0, 1), put(1, 1), wait(), get(0), get(1), get(2), get(3)),
                         [DONE, DONE, DONE, waited(0, 12), told(1), told(1), told(0), told(1)])

    def test_between_set_and_wait(self):
        self.assertEqual(ask(self.GATES, wait(), put(0, 1), get(0), get(1), get(2), get(3),
                             put(1, 0), get(2), get(3), wait(), get(2), get(3)),
                         [DONE, waited(0, 12), DONE, told(1), told(0), told(1), told(0),
                          DONE, told(2), told(2), waited(0, 12), told(1), told(0)])

    def test_it_changes_nothing(self):
        # What isn't sure between set and wait is so by loose, not from then on.
        gates = start(2, (NAND, 0, 3, 3), (NAND, 1, 2, 4))
        self.assertEqual(ask(gates, put(1, 1), wait(), put(1, 0), get(2), get(3), get(2), get(3), wait()),
                         [DONE, DONE, waited(0, 7), DONE, told(1), told(2), told(1), told(2), waited(0, 4)])

    def test_what_is_not_sure_behind_a_wait(self):
        self.assertEqual(ask(start(1, (NOT, 1, 0, 1), (NOT, 0, 0, 1)), wait(), get(0), get(1), get(2)),
                         [DONE, waited(1, 1), told(0), told(2), told(1)])


class Refused(unittest.TestCase):
    def test_no_signal(self):
        for signal in (4, 5, GREATEST):
            self.assertEqual(ask(start(2, (NOT, 0, 0, 1), (NOT, 1, 0, 1)), get(signal), get(3), wait(), get(signal)),
                             [DONE, REFUSED, told(2), waited(0, 1), REFUSED])

    def test_there_is_no_signal_at_all(self):
        self.assertEqual(ask(start(0), get(0)), [DONE, REFUSED])

    def test_nothing_is_changed(self):
        self.assertEqual(ask(start(1, (NOT, 0, 0, 4)), wait(), put(0, 1), get(2), get(0), get(1), wait()),
                         [DONE, waited(0, 4), DONE, REFUSED, told(1), told(2), waited(0, 4)])


if __name__ == "__main__":
    unittest.main()
