"""The calls on a board of gates, and answers, which takes them as one list of whole numbers."""

from waitboard.net import Net, Gate, UNSURE, NEVER, gate_fits, always_so, in_the_end, way_from

MOST_GATES = 16384
MOST_INPUTS = 1024

DONE = 0
NOT_TOLD = -2
NO_WAIT = -11
NOT_VALID = -22
NO_ROOM = -28

FORM_NUMBER = 0
FORM_TIME = 1
FORM_WAY = 2

TK_START = 0
TK_SET = 1
TK_WAIT = 2
TK_GET = 3
TK_WHEN = 4
TK_WHY = 5

# How many numbers a call has, by its number, a tk_start without its row.
CALL_LENGTHS = {0: 3, 1: 3, 2: 1, 3: 2, 4: 2, 5: 3, 6: 1}


class Board:
    def __init__(self):
        self.begin(Net(0, []))

    def begin(self, net):
        self.net = net
        self.ins = [0] * net.inputs
        self.loose = [UNSURE] * net.inputs
        self.before = [UNSURE] * len(net.gates)
        # Of all signals their times in the last wait: kept, as what's set behind it doesn't change them. None
        # till there was a wait.
        self.when = None
        self.longest = 0

    # g is None for nothing: there would be too many gates or inputs.
    def tk_start(self, g, inputs):
        if g is None or len(g) > MOST_GATES or inputs > MOST_INPUTS:
            return [FORM_NUMBER, NOT_VALID]
        signals = inputs + len(g)
        for gate in g:
            if not gate_fits(gate, signals):
                return [FORM_NUMBER, NOT_VALID]
        self.begin(Net(inputs, g))
        return [FORM_NUMBER, DONE]

    def tk_set(self, signal, bit):
        if signal >= self.net.inputs or bit > 1:
            return [FORM_NUMBER, NOT_VALID]
        self.ins[signal] = bit
        # Loose even if that was on it before: it may have been set to and fro since the last wait.
        self.loose[signal] = UNSURE
        return [FORM_NUMBER, DONE]

    def tk_wait(self):
        always = always_so(self.net, self.loose, self.before)
        rest = in_the_end(self.net, self.ins, always)
        self.before = rest.on[self.net.inputs:]
        self.loose = list(self.ins)
        self.when = rest.when
        # Where no gate's time is told the greatest is 0; the inputs' times, being 0, add nothing to it.
        time = max([0] + rest.when)
        self.longest = max(self.longest, time)
        return [FORM_TIME, self.before.count(UNSURE), time]

    def tk_get(self, signal):
        if signal >= self.net.signals:
            return [FORM_NUMBER, NOT_VALID]
        # An input is what it's set to even while it's loose.
        if signal < self.net.inputs:
            return [FORM_NUMBER, self.ins[signal]]
        return [FORM_NUMBER, always_so(self.net, self.loose, self.before)[signal]]

    # Why tk_when and tk_why have no time of the signal to go by; DONE if there is one.
    def time_refusal(self, signal):
        if signal >= self.net.signals:
            return NOT_VALID
        if self.when is None:
            return NO_WAIT
        if self.when[signal] == NEVER:
            return NOT_TOLD
        return DONE

    def tk_when(self, signal):
        refusal = self.time_refusal(signal)
        if refusal != DONE:
            return [FORM_NUMBER, refusal]
        return [FORM_TIME, DONE, self.when[signal]]

    def tk_why(self, signal, room):
        refusal = self.time_refusal(signal)
        if refusal != DONE:
            return [FORM_NUMBER, refusal]
        way = way_from(self.net, self.when, signal)
        if len(way) > room:
            return [FORM_NUMBER, NO_ROOM]
        return [FORM_WAY, len(way)] + way

    def tk_longest(self):
        return [FORM_TIME, DONE, self.longest]


def read_gates(g):
    if g[0] == 0:
        return None
    return [Gate(g[k], g[k + 1], g[k + 2], g[k + 3]) for k in range(2, len(g), 4)]


def call_length(calls, place):
    length = CALL_LENGTHS[calls[place]]
    if calls[place] == TK_START:
        return length + calls[place + 2]
    return length


def answer_call(board, call):
    if call[0] == TK_START:
        return board.tk_start(read_gates(call[3:]), call[1])
    if call[0] == TK_SET:
        return board.tk_set(call[1], call[2])
    if call[0] == TK_WAIT:
        return board.tk_wait()
    if call[0] == TK_GET:
        return board.tk_get(call[1])
    if call[0] == TK_WHEN:
        return board.tk_when(call[1])
    if call[0] == TK_WHY:
        return board.tk_why(call[1], call[2])
    return board.tk_longest()


def answers(calls):
    board = Board()
    told = []
    place = 0
    while place < len(calls):
        end = place + call_length(calls, place)
        answer = answer_call(board, calls[place:end])
        told.append(len(answer))
        told.extend(answer)
        place = end
    return told
