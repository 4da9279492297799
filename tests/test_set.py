"""Point 2: tk_set."""

import unittest

from helper import ask, start, put, wait, get, told, waited, DONE, REFUSED, NOT, GREATEST


class Set(unittest.TestCase):
    def test_that_is_on_it(self):
        self.assertEqual(ask(start(2), put(1, 1), get(0), get(1), put(1, 0), get(1), put(0, 1), get(0)),
                         [DONE, DONE, told(0), told(1), DONE, told(0), DONE, told(1)])

    def test_the_last_input(self):
        self.assertEqual(ask(start(1024), put(1023, 1), get(1023), get(1022)), [DONE, DONE, told(1), told(0)])

    def test_what_was_set_comes_through(self):
        self.assertEqual(ask(start(1, (NOT, 0, 0, 4)), put(0, 1), wait(), get(1), put(0, 0), wait(), get(1)),
                         [DONE, DONE, waited(0, 4), told(0), DONE, waited(0, 4), told(1)])

    def test_set_to_what_it_was_is_loose(self):
        self.assertEqual(ask(start(1, (NOT, 0, 0, 4)), wait(), put(0, 0), get(1), wait(), get(1)),
                         [DONE, waited(0, 4), DONE, told(2), waited(0, 4), told(1)])

    def test_set_to_and_fro_is_loose(self):
        self.assertEqual(ask(start(1, (NOT, 0, 0, 4)), wait(), put(0, 1), put(0, 0), get(0), get(1), wait(), get(1)),
                         [DONE, waited(0, 4), DONE, DONE, told(0), told(2), waited(0, 4), told(1)])

    def test_the_last_one_set_holds(self):
        self.assertEqual(ask(start(1, (NOT, 0, 0, 4)), put(0, 1), put(0, 0), put(0, 1), wait(), get(0), get(1)),
                         [DONE, DONE, DONE, DONE, waited(0, 4), told(1), told(0)])

    def test_only_what_was_set_is_loose(self):
        self.assertEqual(ask(start(2, (NOT, 0, 0, 4), (NOT, 1, 0, 9)), wait(), put(0, 1), get(2), get(3), wait()),
                         [DONE, waited(0, 9), DONE, told(2), told(1), waited(0, 4)])

    def test_behind_a_wait_it_is_loose_no_more(self):
        self.assertEqual(ask(start(2, (NOT, 0, 0, 4), (NOT, 1, 0, 9)), wait(), put(1, 1), wait(), put(0, 1), get(3),
                             wait()),
                         [DONE, waited(0, 9), DONE, waited(0, 9), DONE, told(0), waited(0, 4)])


class Refused(unittest.TestCase):
    def test_no_input(self):
        for which in (2, 3, 4, GREATEST):
            for bit in (0, 1):
                self.assertEqual(ask(start(2, (NOT, 0, 0, 1)), put(which, bit)), [DONE, REFUSED])

    def test_there_is_no_input_at_all(self):
        self.assertEqual(ask(start(0, (NOT, 0, 0, 1)), put(0, 0)), [DONE, REFUSED])

    def test_bit_above_1(self):
        for bit in (2, 3, GREATEST):
            self.assertEqual(ask(start(2), put(0, bit), put(1, bit)), [DONE, REFUSED, REFUSED])

    def test_nothing_is_changed(self):
        for refused in (put(0, 2), put(0, 3), put(0, GREATEST), put(1, 0), put(1, 1), put(2, 1), put(GREATEST, 9)):
            self.assertEqual(ask(start(1, (NOT, 0, 0, 4)), put(0, 1), wait(), refused, get(0), get(1), wait(), get(1)),
                             [DONE, DONE, waited(0, 4), REFUSED, told(1), told(0), waited(0, 0), told(0)])


if __name__ == "__main__":
    unittest.main()
