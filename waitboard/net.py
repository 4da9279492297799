"""Gates and signals: what's always so, what's so in the end, from when on, and why then.

Signals are numbered: the inputs from 0, then the gates in their order. A gate's place is its number among
the gates alone.
"""

NOT = 0
NAND = 1
NOR = 2

UNSURE = 2
NEVER = -1


class Gate:
    def __init__(self, kind, a, b, most):
        self.kind = kind
        self.a = a
        self.b = b
        self.most = most


class Net:
    def __init__(self, inputs, gates):
        self.inputs = inputs
        self.gates = gates
        self.signals = inputs + len(gates)
        # Kept, so that only those gates are looked at again of which a signal has changed.
        self.users = find_users(inputs, gates)


class Rest:
    def __init__(self, on, when):
        self.on = on
        self.when = when


class Agenda:
    def __init__(self):
        # The latest stands first, so that the soonest is taken from the end, where that's cheap.
        self.entries = []

    def note(self, time, place):
        low = 0
        high = len(self.entries)
        while low < high:
            middle = (low + high) // 2
            if self.entries[middle][0] > time:
                low = middle + 1
            else:
                high = middle
        self.entries.insert(low, (time, place))

    def is_over(self):
        return len(self.entries) == 0

    def take_soonest(self):
        return self.entries.pop()[1]


def sources(gate):
    # b of a not isn't looked at, and may be no signal.
    if gate.kind == NOT:
        return [gate.a]
    return [gate.a, gate.b]


def gate_fits(gate, signals):
    if gate.kind > NOR or gate.most < 1:
        return False
    return max(sources(gate)) < signals


def find_users(inputs, gates):
    users = [[] for signal in range(inputs + len(gates))]
    for place, gate in enumerate(gates):
        for signal in sources(gate):
            users[signal].append(place)
    return users


def comes_to(gate, on):
    first = on[gate.a]
    # A not does what a nand does that uses one signal twice.
    second = first if gate.kind == NOT else on[gate.b]
    # One input alone decides if it's 0 at a nand, or 1 at a nor, whatever the other one is.
    forcing = 1 if gate.kind == NOR else 0
    if first == forcing or second == forcing:
        return 1 - forcing
    if first == UNSURE or second == UNSURE:
        return UNSURE
    return forcing


def always_so(net, loose, before):
    on = loose + before
    # A gate that has lost what was on it never gets it back, and one that would lose it now would lose it
    # later too: so one by one ends where all at once does, and needs no round over all gates for each change.
    waiting = list(range(len(net.gates)))
    while len(waiting) > 0:
        place = waiting.pop()
        signal = net.inputs + place
        if on[signal] != UNSURE and comes_to(net.gates[place], on) != on[signal]:
            on[signal] = UNSURE
            waiting.extend(net.users[signal])
    return on


def note_the_sure(net, rest, agenda, time, places):
    for place in places:
        gate = net.gates[place]
        signal = net.inputs + place
        # A gate that has its time was noted by something sooner, or was sure always.
        if rest.when[signal] == NEVER and comes_to(gate, rest.on) != UNSURE:
            rest.when[signal] = time + gate.most
            agenda.note(time + gate.most, place)


def in_the_end(net, ins, always):
    on = ins + always[net.inputs:]
    rest = Rest(on, [NEVER if bit == UNSURE else 0 for bit in on])
    agenda = Agenda()
    note_the_sure(net, rest, agenda, 0, list(range(len(net.gates))))
    # In the order of time, a gate is noted by the soonest signals that make it sure, so its time is the
    # least; and what's on it stays 2 till its time has come, so that no gate builds on it sooner.
    while not agenda.is_over():
        place = agenda.take_soonest()
        signal = net.inputs + place
        rest.on[signal] = comes_to(net.gates[place], rest.on)
        note_the_sure(net, rest, agenda, rest.when[signal], net.users[signal])
    return rest


def reason(gate, time, when):
    # A source whose time is never can't be taken for one: never is below 0, and a gate's time isn't below its most.
    return min([source for source in sources(gate) if when[source] + gate.most == time])


def way_from(net, when, signal):
    way = [signal]
    # Each gate takes 1 at least, so the times fall along the way, and it ends.
    while when[way[-1]] > 0:
        gate = net.gates[way[-1] - net.inputs]
        way.append(reason(gate, when[way[-1]], when))
    return way
