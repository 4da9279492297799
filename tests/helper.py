"""Builds lists of calls, takes answers apart, and tells answers a second time, straight by the document's words."""

from waitboard.board import answers

NOT, NAND, NOR = 0, 1, 2
LONGEST = 2 ** 32 - 1
GREATEST = 2 ** 63 - 1

DONE = [0, 0]
REFUSED = [0, -22]
NO_WAIT = [0, -11]
NOT_TOLD = [0, -2]
NO_ROOM = [0, -28]


def start(inputs, *gates):
    row = [1, len(gates)]
    for gate in gates:
        row.extend(gate)
    return [0, inputs, len(row)] + row


def start_nothing(inputs):
    return [0, inputs, 1, 0]


def put(which, bit):
    return [1, which, bit]


def wait():
    return [2]


def get(signal):
    return [3, signal]


def when(signal):
    return [4, signal]


def why(signal, room=GREATEST):
    return [5, signal, room]


def longest():
    return [6]


def told(number):
    return [0, number]


def waited(unsure, time):
    return [1, unsure, time]


def timed(time):
    return [1, 0, time]


def way(*signals):
    return [2, len(signals)] + list(signals)


def joined(calls):
    return [number for call in calls for number in call]


def apart(numbers):
    """The answers, call by call, each without its count."""
    found = []
    place = 0
    while place < len(numbers):
        end = place + 1 + numbers[place]
        assert end <= len(numbers), "a count goes beyond the end"
        found.append(numbers[place + 1:end])
        place = end
    return found


def ask(*calls):
    return apart(answers(joined(calls)))


def last(*calls):
    return ask(*calls)[-1]


def looked_at(gate, on):
    kind, a, b, most = gate
    if kind == NOT:
        return {0: 1, 1: 0, 2: 2}[on[a]]
    pair = (on[a], on[b])
    if kind == NAND:
        return 1 if 0 in pair else 0 if pair == (1, 1) else 2
    return 0 if 1 in pair else 1 if pair == (0, 0) else 2


NEVER = float("inf")


class Words:
    """The calls done round by round as the document tells them, however long that takes."""

    def tk_start(self, inputs, gates):
        signals = inputs + len(gates)
        for kind, a, b, most in gates:
            if kind > 2 or a >= signals or (kind != NOT and b >= signals) or most == 0:
                return REFUSED
        self.inputs, self.gates = inputs, gates
        self.ins = [0] * inputs
        self.put_since = [True] * inputs
        self.before = [2] * len(gates)
        self.when = None
        self.waits = []
        return DONE

    def tk_set(self, which, bit):
        if which >= self.inputs or bit > 1:
            return REFUSED
        self.ins[which] = bit
        self.put_since[which] = True
        return DONE

    def always(self):
        v = self.before
        loose = [2 if since else bit for since, bit in zip(self.put_since, self.ins)]
        while True:
            after = [x if looked_at(gate, loose + v) == x else 2 for gate, x in zip(self.gates, v)]
            if after == v:
                return v
            v = after

    def end(self, v):
        while True:
            after = [looked_at(gate, self.ins + v) for gate in self.gates]
            if after == v:
                return v
            v = after

    def times(self, always, end):
        """The least times that are so: from never on, lowered while one can be."""
        on = self.ins + end
        when = [0] * self.inputs + [NEVER if x == 2 else 0 for x in always]
        while True:
            after = list(when)
            for place, gate in enumerate(self.gates):
                if always[place] == 2:
                    after[self.inputs + place] = self.soonest(gate, on, when) + gate[3]
            if after == when:
                return when
            when = after

    def soonest(self, gate, on, when):
        kind, a, b, most = gate
        if kind == NOT:
            return when[a]
        forcing = 0 if kind == NAND else 1
        alone = [when[signal] for signal in (a, b) if on[signal] == forcing]
        return min(alone + [max(when[a], when[b])])

    def tk_wait(self):
        always = self.always()
        end = self.end(always)
        self.when = self.times(always, end)
        self.waits.append(max([time for time in self.when[self.inputs:] if time != NEVER], default=0))
        self.before = end
        self.put_since = [False] * self.inputs
        return waited(end.count(2), self.waits[-1])

    def tk_get(self, signal):
        if signal >= self.inputs + len(self.gates):
            return REFUSED
        return told((self.ins + self.always())[signal])

    def tk_when(self, signal):
        if signal >= self.inputs + len(self.gates):
            return REFUSED
        if self.when is None:
            return NO_WAIT
        return NOT_TOLD if self.when[signal] == NEVER else timed(self.when[signal])

    def way(self, signal):
        if self.when[signal] == 0:
            return [signal]
        kind, a, b, most = self.gates[signal - self.inputs]
        will_do = [source for source in ((a,) if kind == NOT else (a, b))
                   if self.when[source] + most == self.when[signal]]
        return [signal] + self.way(sorted(will_do)[0])

    def tk_why(self, signal, room):
        answer = self.tk_when(signal)
        if answer[0] == 0:
            return answer
        found = self.way(signal)
        return NO_ROOM if len(found) > room else way(*found)

    def tk_longest(self):
        return timed(max(self.waits, default=0))


def ask_the_words(calls):
    words = Words()
    others = (words.tk_set, words.tk_wait, words.tk_get, words.tk_when, words.tk_why, words.tk_longest)
    found = []
    for call in calls:
        if call[0] == 0:
            gates = [tuple(call[k:k + 4]) for k in range(5, len(call), 4)]
            found.append(REFUSED if call[3] == 0 else words.tk_start(call[1], gates))
        else:
            found.append(others[call[0] - 1](*call[1:]))
    return found
