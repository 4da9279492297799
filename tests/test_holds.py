"""What holds of all nets: tried on many small ones, made by a fixed seed."""

import random
import unittest

from helper import (ask, ask_the_words, looked_at, start, start_nothing, put, wait, get, when, why, longest, timed,
                    NOT_TOLD, NO_ROOM, NOT, GREATEST)
from waitboard.board import Board
from waitboard.net import Gate


def some_gates(dice, inputs, count, most):
    signals = inputs + count
    return [(dice.randrange(3), dice.randrange(signals), dice.randrange(signals), dice.randint(1, most))
            for place in range(count)]


def some_start(dice, most):
    inputs = dice.randint(0, 4)
    count = dice.randint(0 if inputs else 1, 9)
    return inputs, some_gates(dice, inputs, count, most)


def some_calls(dice, inputs, gates):
    """The calls behind a start, wrong ones and another start among them."""
    signals = inputs + len(gates)
    calls = []
    for step in range(dice.randint(1, 30)):
        calls.append(dice.choice([
            put(dice.randint(0, inputs), dice.choice([0, 0, 1, 1, 2])),
            put(dice.randint(0, inputs), dice.choice([0, 1])),
            wait(),
            wait(),
            get(dice.choice([dice.randint(0, signals), GREATEST])),
            get(dice.randint(0, signals)),
            when(dice.choice([dice.randint(0, signals), GREATEST])),
            when(dice.randint(0, signals)),
            why(dice.randint(0, signals), dice.choice([0, 1, 2, 3, 4, GREATEST])),
            why(dice.randint(0, signals)),
            longest(),
        ]))
        if dice.random() < 0.02:
            calls.append(dice.choice([start_nothing(0), start(inputs, (3, 0, 0, 1)), start(inputs, *gates)]))
    return calls


class ByTheWords(unittest.TestCase):
    def test_small_nets(self):
        dice = random.Random(1)
        for trial in range(3000):
            inputs, gates = some_start(dice, dice.choice([1, 3, 2 ** 32 - 1]))
            calls = [start(inputs, *gates)] + some_calls(dice, inputs, gates)
            self.assertEqual(ask(*calls), ask_the_words(calls), calls)

    def test_larger_nets(self):
        dice = random.Random(2)
        for trial in range(60):
            gates = some_gates(dice, 12, 60, 50)
            calls = [start(12, *gates)]
            for step in range(6):
                calls.extend([put(dice.randrange(12), dice.randrange(2)), get(dice.randrange(72)), wait(),
                              when(dice.randrange(72)), why(dice.randrange(72)), why(dice.randrange(72), 5)])
            calls.append(longest())
            looks = [call(signal) for call in (get, when, why) for signal in range(72)]
            for turn in range(4):
                # A list has at most 50 calls.
                more = dice.sample(looks, 12)
                self.assertEqual(ask(*(calls + more)), ask_the_words(calls + more), calls)


class Living:
    """A net that lives beside the calls: each gate is looked at when the dice say, within its bounds."""

    def __init__(self, dice, inputs, gates):
        self.dice = dice
        self.inputs = inputs
        self.gates = gates
        self.on = [0] * inputs + [dice.randrange(2) for gate in gates]

    def look(self, place):
        self.on[self.inputs + place] = looked_at(self.gates[place], self.on)

    def look_at_any(self):
        for step in range(self.dice.randrange(2 * len(self.gates) + 1)):
            self.look(self.dice.randrange(len(self.gates)))

    def be_given(self, time):
        """Time passes, moment by moment, in which some gates are as slow as they may be, others not."""
        due = [self.gap(gate) for gate in self.gates]
        for now in range(1, time + 1):
            places = [place for place, at in enumerate(due) if at == now]
            self.dice.shuffle(places)
            for place in places:
                self.look(place)
                due[place] = now + self.gap(self.gates[place])
            yield now

    def gap(self, gate):
        return gate[3] if self.dice.random() < 0.7 else self.dice.randint(1, gate[3])


class ToldIsThere(unittest.TestCase):
    def setUp(self):
        self.dice = random.Random(3)

    def test_in_every_timing(self):
        sure = 0
        for trial in range(1500):
            inputs, gates = some_start(self.dice, 6)
            if gates:
                sure += self.live(inputs, gates)
        self.assertGreater(sure, 10000)

    def live(self, inputs, gates):
        """How many gates were told as sure, each of which is looked up in the living net."""
        board = new_board(inputs, gates)
        living = Living(self.dice, inputs, gates)
        sure = 0
        for step in range(8):
            living.look_at_any()
            if inputs and self.dice.randrange(2):
                which, bit = self.dice.randrange(inputs), self.dice.randrange(2)
                board.tk_set(which, bit)
                living.on[which] = bit
            else:
                self.wait_for(board, living)
            found = all_told(board)
            for more in range(3):
                for expected, bit in zip(found, living.on):
                    self.assertIn(expected, (bit, 2), gates)
                living.look_at_any()
            sure += sum(1 for bit in found[inputs:] if bit != 2)
        return sure

    def wait_for(self, board, living):
        """From the time on that tk_when tells there's on each signal what is told behind the wait."""
        time = board.tk_wait()[2]
        times = all_times(board)
        found = all_told(board)
        for now in living.be_given(time):
            for signal, at in enumerate(times):
                if at is not None and at <= now:
                    self.assertEqual(living.on[signal], found[signal], living.gates)


def new_board(inputs, gates):
    board = Board()
    board.tk_start([Gate(*gate) for gate in gates], inputs)
    return board


def all_told(board):
    return [board.tk_get(signal)[1] for signal in range(board.net.signals)]


def all_times(board):
    """Of each signal its time, None where that isn't told."""
    answered = [board.tk_when(signal) for signal in range(board.net.signals)]
    return [None if answer == NOT_TOLD else answer[2] for answer in answered]


class Waits(unittest.TestCase):
    """What holds behind each wait, however many were before it and whatever's set between."""

    def each_wait(self, seed):
        dice = random.Random(seed)
        for trial in range(600):
            inputs, gates = some_start(dice, dice.choice([2, 2 ** 32 - 1]))
            board = new_board(inputs, gates)
            for step in range(4):
                for turn in range(dice.randint(0, inputs)):
                    board.tk_set(dice.randrange(inputs), dice.randrange(2))
                sure_before = all_told(board)
                yield board, gates, sure_before, board.tk_wait()

    def test_behind_one_that_answers_0_all_signals_are_told(self):
        found = {True: 0, False: 0}
        for board, gates, sure_before, answer in self.each_wait(4):
            values, times = all_told(board), all_times(board)
            self.assertEqual(values.count(2), answer[1])
            # A time is told just where 0 or 1 is.
            self.assertEqual([bit == 2 for bit in values], [time is None for time in times])
            self.assertEqual(answer[1] == 0, None not in times)
            found[answer[1] == 0] += 1
        self.assertGreater(min(found.values()), 200)

    def test_time_0_is_told_just_where_it_was_sure_before(self):
        for board, gates, sure_before, answer in self.each_wait(5):
            for signal, time in enumerate(all_times(board)):
                if signal >= board.net.inputs and time is not None:
                    self.assertEqual(time == 0, sure_before[signal] != 2)

    def test_each_time_has_its_reason(self):
        long_ways = 0
        for board, gates, sure_before, answer in self.each_wait(6):
            times = all_times(board)
            for signal, time in enumerate(times):
                if time is None:
                    self.assertEqual(board.tk_why(signal, GREATEST), NOT_TOLD)
                else:
                    way = self.way_of(board, signal)
                    self.check_way(board.net.inputs, gates, times, way)
                    long_ways += len(way) > 2
        self.assertGreater(long_ways, 500)

    def way_of(self, board, signal):
        form, length, *way = board.tk_why(signal, GREATEST)
        self.assertEqual((form, length, way[0]), (2, len(way), signal))
        self.assertEqual(board.tk_why(signal, length), [form, length] + way)
        self.assertEqual(board.tk_why(signal, length - 1), NO_ROOM)
        return way

    def check_way(self, inputs, gates, times, way):
        taken = 0
        for signal, source in zip(way, way[1:]):
            kind, a, b, most = gates[signal - inputs]
            self.assertIn(source, (a,) if kind == NOT else (a, b))
            self.assertNotEqual(times[signal], 0)
            taken += most
        self.assertEqual(times[way[-1]], 0)
        self.assertEqual(taken, times[way[0]])

    def test_waited_again_the_time_is_0(self):
        for board, gates, sure_before, answer in self.each_wait(7):
            values, times = all_told(board), all_times(board)
            self.assertEqual(board.tk_wait(), [1, answer[1], 0])
            self.assertEqual(all_told(board), values)
            self.assertEqual(all_times(board), [None if time is None else 0 for time in times])

    def test_never_longer_than_all_gates_together(self):
        for board, gates, sure_before, answer in self.each_wait(8):
            self.assertLessEqual(answer[2], sum(gate[3] for gate in gates))
            self.assertEqual(answer[2], max([time for time in all_times(board) if time is not None], default=0))

    def test_the_longest_is_one_of_them(self):
        board, waits = None, []
        for now, gates, sure_before, answer in self.each_wait(9):
            waits = waits + [answer[2]] if now is board else [answer[2]]
            board = now
            self.assertEqual(board.tk_longest(), timed(max(waits)))


if __name__ == "__main__":
    unittest.main()
