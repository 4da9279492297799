"""What holds of all nets: tried on many small ones, made by a fixed seed."""

import random
import unittest

from helper import ask, ask_the_words, looked_at, start, start_nothing, put, wait, get, GREATEST


def some_gates(dice, inputs, count, longest):
    signals = inputs + count
    return [(dice.randrange(3), dice.randrange(signals), dice.randrange(signals), dice.randint(1, longest))
            for place in range(count)]


def some_start(dice, longest):
    inputs = dice.randint(0, 4)
    count = dice.randint(0 if inputs else 1, 9)
    return inputs, some_gates(dice, inputs, count, longest)


def some_calls(dice, inputs, gates):
    """The calls behind a start, wrong ones and another start among them."""
    signals = inputs + len(gates)
    calls = []
    for step in range(dice.randint(1, 30)):
        calls.append(dice.choice([
            put(dice.randint(0, inputs), dice.choice([0, 0, 1, 1, 2])),
            put(dice.randint(0, inputs), dice.choice([0, 1])),
            wait(),
            get(dice.choice([dice.randint(0, signals), GREATEST])),
            get(dice.randint(0, signals)),
        ]))
        if dice.random() < 0.02:
            calls.append(dice.choice([start_nothing(0), start(inputs, (3, 0, 0, 1)), start(inputs, *gates)]))
    return calls


class ByTheWords(unittest.TestCase):
    def test_small_nets(self):
        dice = random.Random(1)
        for trial in range(3000):
            inputs, gates = some_start(dice, dice.choice([1, 3, 2 ** 32 - 1]))
            calls = [start(inputs, *gates)] + some_calls(dice, inputs, gates)
            self.assertEqual(ask(*calls), ask_the_words(calls), calls)

    def test_larger_nets(self):
        dice = random.Random(2)
        for trial in range(60):
            gates = some_gates(dice, 12, 60, 50)
            calls = [start(12, *gates)]
            for step in range(6):
                calls.extend([put(dice.randrange(12), dice.randrange(2)), get(dice.randrange(72)), wait()])
            calls.extend(get(signal) for signal in range(72))
            self.assertEqual(ask(*calls), ask_the_words(calls), calls)


class Living:
    """A net that lives beside the calls: each gate is looked at when the dice say, within its bounds."""

    def __init__(self, dice, inputs, gates):
        self.dice = dice
        self.inputs = inputs
        self.gates = gates
        self.on = [0] * inputs + [dice.randrange(2) for gate in gates]

    def look(self, place):
        self.on[self.inputs + place] = looked_at(self.gates[place], self.on)

    def look_at_any(self):
        for step in range(self.dice.randrange(2 * len(self.gates) + 1)):
            self.look(self.dice.randrange(len(self.gates)))

    def be_given(self, time):
        """Time passes, in which some gates are as slow as they may be, others not."""
        due = [self.gap(gate) for gate in self.gates]
        for now in range(1, time + 1):
            places = [place for place, at in enumerate(due) if at == now]
            self.dice.shuffle(places)
            for place in places:
                self.look(place)
                due[place] = now + self.gap(self.gates[place])

    def gap(self, gate):
        return gate[3] if self.dice.random() < 0.7 else self.dice.randint(1, gate[3])


class ToldIsThere(unittest.TestCase):
    def setUp(self):
        self.dice = random.Random(3)

    def test_in_every_timing(self):
        sure = 0
        for trial in range(1500):
            inputs, gates = some_start(self.dice, 6)
            if gates:
                sure += self.live(inputs, gates)
        self.assertGreater(sure, 10000)

    def live(self, inputs, gates):
        """How many gates were told as sure, each of which is looked up in the living net."""
        steps = [self.dice.choice([wait(), put(self.dice.randrange(inputs), self.dice.randrange(2)) if inputs else wait()])
                 for step in range(8)]
        looks = [get(signal) for signal in range(inputs + len(gates))]
        calls = [start(inputs, *gates)] + [call for step in steps for call in [step] + looks]
        answered = ask(*calls)[1:]
        living = Living(self.dice, inputs, gates)
        sure = 0
        for step in steps:
            living.look_at_any()
            if step[0] == 1:
                living.on[step[1]] = step[2]
            else:
                living.be_given(answered[0][2])
            told = [answer[1] for answer in answered[1:1 + len(looks)]]
            answered = answered[1 + len(looks):]
            for more in range(3):
                for expected, bit in zip(told, living.on):
                    self.assertIn(expected, (bit, 2), calls)
                living.look_at_any()
            sure += sum(1 for bit in told[inputs:] if bit != 2)
        return sure


class Waits(unittest.TestCase):
    def test_sure_of_all_and_never_too_long(self):
        dice = random.Random(4)
        for trial in range(1500):
            inputs, gates = some_start(dice, 2 ** 32 - 1)
            signals = inputs + len(gates)
            calls = [start(inputs, *gates)] + [put(k, dice.randrange(2)) for k in range(inputs)]
            answered = ask(*(calls + [wait()] + [get(k) for k in range(signals)] + [wait()]))
            first = answered[len(calls)]
            self.assertEqual(sum(1 for answer in answered[-1 - signals:-1] if answer == [0, 2]), first[1])
            self.assertLessEqual(first[2], sum(gate[3] for gate in gates))
            self.assertEqual(answered[-1], [1, first[1], 0])


if __name__ == "__main__":
    unittest.main()
