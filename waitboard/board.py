"""The calls on a board of gates, and answers, which takes them as one list of whole numbers."""

from waitboard.net import Net, Gate, UNSURE, gate_fits, always_so, in_the_end

MOST_GATES = 16384
MOST_INPUTS = 1024

DONE = 0
NOT_VALID = -22

FORM_NUMBER = 0
FORM_TIME = 1

TK_START = 0
TK_SET = 1
TK_WAIT = 2

# How many numbers a call has, by its number, a tk_start without its row.
CALL_LENGTHS = {0: 3, 1: 3, 2: 1, 3: 2}


class Board:
    def __init__(self):
        self.net = Net(0, [])
        self.ins = []
        self.loose = []
        self.before = []

    # g is None for nothing: there would be too many gates or inputs.
    def tk_start(self, g, inputs):
        if g is None or len(g) > MOST_GATES or inputs > MOST_INPUTS:
            return [FORM_NUMBER, NOT_VALID]
        signals = inputs + len(g)
        for gate in g:
            if not gate_fits(gate, signals):
                return [FORM_NUMBER, NOT_VALID]
        self.net = Net(inputs, g)
        self.ins = [0] * inputs
        self.loose = [UNSURE] * inputs
        self.before = [UNSURE] * len(g)
        return [FORM_NUMBER, DONE]

    def tk_set(self, signal, bit):
        if signal >= self.net.inputs or bit > 1:
            return [FORM_NUMBER, NOT_VALID]
        self.ins[signal] = bit
        # Loose even if that was on it before: it may have been set to and fro since the last wait.
        self.loose[signal] = UNSURE
        return [FORM_NUMBER, DONE]

    def tk_wait(self):
        always = always_so(self.net, self.loose, self.before)
        rest = in_the_end(self.net, self.ins, always)
        self.before = rest.on[self.net.inputs:]
        self.loose = list(self.ins)
        # Where no gate's time is told the greatest is 0; the inputs' times, being 0, add nothing to it.
        return [FORM_TIME, self.before.count(UNSURE), max([0] + rest.when)]

    def tk_get(self, signal):
        inputs = self.net.inputs
        if signal >= inputs + len(self.net.gates):
            return [FORM_NUMBER, NOT_VALID]
        # An input is what it's set to even while it's loose.
        if signal < inputs:
            return [FORM_NUMBER, self.ins[signal]]
        return [FORM_NUMBER, always_so(self.net, self.loose, self.before)[signal]]


def read_gates(g):
    if g[0] == 0:
        return None
    return [Gate(g[k], g[k + 1], g[k + 2], g[k + 3]) for k in range(2, len(g), 4)]


def call_length(calls, place):
    length = CALL_LENGTHS[calls[place]]
    if calls[place] == TK_START:
        return length + calls[place + 2]
    return length


def answer_call(board, call):
    if call[0] == TK_START:
        return board.tk_start(read_gates(call[3:]), call[1])
    if call[0] == TK_SET:
        return board.tk_set(call[1], call[2])
    if call[0] == TK_WAIT:
        return board.tk_wait()
    return board.tk_get(call[1])


def answers(calls):
    board = Board()
    told = []
    place = 0
    while place < len(calls):
        end = place + call_length(calls, place)
        answer = answer_call(board, calls[place:end])
        told.append(len(answer))
        told.extend(answer)
        place = end
    return told
