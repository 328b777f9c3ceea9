"""Networks of gates and registers, read from texts of bytes."""

MOST_BYTES = 65536
MOST_NAMES = 1024
MOST_INPUTS = 64
MOST_OUTPUTS = 64
MOST_BEATS = 65536
MOST_SOURCES = 3
MOST_COMPARED_INPUTS = 16
# So many inputs' numbers are compared at once: columns stay short, and an early difference ends the work early.
INPUTS_IN_BLOCK = 11
LONGEST_NAME = 15

LETTERS = "abcdefghijklmnopqrstuvwxyz"
NAME_SIGNS = "abcdefghijklmnopqrstuvwxyz0123456789_"
KNOWN_SIGNS = "\n\t #=abcdefghijklmnopqrstuvwxyz0123456789_"
STRANGE_SIGN = "?"

SOURCES_OF_KIND = {
    "zero": 0, "one": 0,
    "not": 1, "buf": 1, "reg": 1, "reg1": 1,
    "and": 2, "or": 2, "xor": 2, "nand": 2, "nor": 2, "xnor": 2,
    "maj": 3, "mux": 3,
}
FIRST_BIT_OF_REGISTER = {"reg": 0, "reg1": 1}

# What a kind gives stands in the place that its sources' bits tell, read as a number, the first source's the highest.
BITS_OF_KIND = {
    "zero": (0,), "one": (1,),
    "not": (1, 0), "buf": (0, 1),
    "and": (0, 0, 0, 1), "or": (0, 1, 1, 1), "xor": (0, 1, 1, 0),
    "nand": (1, 1, 1, 0), "nor": (1, 0, 0, 0), "xnor": (1, 0, 0, 1),
    "maj": (0, 0, 0, 1, 0, 1, 1, 1), "mux": (0, 1, 0, 1, 0, 0, 1, 1),
}


class NoNetwork(ValueError):
    pass


class Gate:
    def __init__(self, kind, sources):
        self.kind = kind
        self.sources = sources


class Network:
    def __init__(self):
        # The inputs are a dict of their places, so that a name is found at once in a long list too.
        self.inputs = {}
        self.outputs = []
        self.gates = {}


class Machine:
    def __init__(self, network):
        # Names become places in one list of bits, so that a beat looks up no name.
        places = place_names(network)
        self.bits = first_bits(network, places)
        self.input_places = [places[name] for name in network.inputs]
        self.output_places = [places[name] for name in network.outputs]
        self.steps = list_steps(network, places)
        self.moves = list_moves(network, places)


def check(text):
    try:
        read_network(text)
    except NoNetwork:
        return [-1]
    return [0]


def run(text, inputs):
    try:
        network = read_network(text)
    except NoNetwork:
        return [-1]
    if len(inputs) > MOST_BEATS:
        return [-2]
    return [0] + run_beats(Machine(network), inputs)


def same(a, b):
    try:
        one = read_network(a)
        other = read_network(b)
    except NoNetwork:
        return [-1]
    if not are_comparable(one, other):
        return [-2]
    number = least_difference(Machine(one), Machine(other))
    if number is None:
        return [1]
    return [0, number]


def depth(text):
    try:
        network = read_network(text)
    except NoNetwork:
        return [-1]
    return [longest_chain(network.gates)]


def read_network(text):
    if len(text) > MOST_BYTES:
        raise NoNetwork()
    network = Network()
    for line in spell(text).split("\n"):
        words = line.partition("#")[0].split()
        if len(words) > 0:
            read_line(network, words)
    refuse_too_many(network)
    refuse_unknown_names(network)
    refuse_loops(network)
    return network


def spell(text):
    # No word holds the strange sign, so it may stand for every byte that no word holds;
    # and no blank but space and tab is left for split to find.
    signs = {}
    for sign in KNOWN_SIGNS:
        signs[ord(sign)] = sign
    return "".join([signs.get(byte, STRANGE_SIGN) for byte in text])


def read_line(network, words):
    if words[0] == "in":
        add_inputs(network, words[1:])
    elif words[0] == "out":
        add_outputs(network, words[1:])
    else:
        add_gate(network, words)


def add_inputs(network, names):
    if len(names) == 0:
        raise NoNetwork()
    for name in names:
        refuse_as_new(network, name)
        network.inputs[name] = len(network.inputs)


def add_outputs(network, names):
    if len(names) == 0:
        raise NoNetwork()
    network.outputs.extend(names)


def add_gate(network, words):
    if len(words) < 3 or words[1] != "=" or words[2] not in SOURCES_OF_KIND:
        raise NoNetwork()
    name = words[0]
    kind = words[2]
    sources = words[3:]
    if len(sources) != SOURCES_OF_KIND[kind]:
        raise NoNetwork()
    refuse_as_new(network, name)
    network.gates[name] = Gate(kind, sources)


def is_name(word):
    if word == "in" or word == "out":
        return False
    if len(word) > LONGEST_NAME or word[0] not in LETTERS:
        return False
    return all([sign in NAME_SIGNS for sign in word])


def is_given(network, name):
    return name in network.inputs or name in network.gates


def refuse_as_new(network, word):
    if not is_name(word) or is_given(network, word):
        raise NoNetwork()


def refuse_too_many(network):
    if len(network.inputs) > MOST_INPUTS or len(network.outputs) > MOST_OUTPUTS:
        raise NoNetwork()
    if len(network.inputs) + len(network.gates) > MOST_NAMES:
        raise NoNetwork()


def refuse_unknown_names(network):
    # A name may be used ahead of the line that gives it, so this waits for the text's end.
    # A word that is no name is never given, so where it is used it is refused here too.
    for name in network.outputs:
        if not is_given(network, name):
            raise NoNetwork()
    for gate in network.gates.values():
        for name in gate.sources:
            if not is_given(network, name):
                raise NoNetwork()


def refuse_loops(network):
    if len(order_gates(network.gates)) < len(network.gates):
        raise NoNetwork()


def sources_at_once(gate):
    # A reg shows what its name had a beat before: it waits for nothing in this one.
    if gate.kind in FIRST_BIT_OF_REGISTER:
        return []
    return gate.sources


def order_gates(gates):
    # Each gate comes behind those it takes in the same beat, so the ones that wait for themselves never come.
    takers = {}
    for name in gates:
        takers[name] = []
    waits = {}
    for name, gate in gates.items():
        awaited = [source for source in sources_at_once(gate) if source in gates]
        waits[name] = len(awaited)
        for source in awaited:
            takers[source].append(name)
    order = []
    ready = [name for name in gates if waits[name] == 0]
    while len(ready) > 0:
        done = ready.pop()
        order.append(done)
        for taker in takers[done]:
            waits[taker] -= 1
            if waits[taker] == 0:
                ready.append(taker)
    return order


def place_names(network):
    places = dict(network.inputs)
    for name in network.gates:
        places[name] = len(places)
    return places


def first_bits(network, places):
    # One place more, behind all names', stays 0: it stands for the sources that a kind doesn't take.
    bits = [0] * (len(places) + 1)
    for name, gate in network.gates.items():
        if gate.kind in FIRST_BIT_OF_REGISTER:
            bits[places[name]] = FIRST_BIT_OF_REGISTER[gate.kind]
    return bits


def list_steps(network, places):
    steps = []
    for name in order_gates(network.gates):
        gate = network.gates[name]
        if gate.kind not in FIRST_BIT_OF_REGISTER:
            sources = [len(places)] * (MOST_SOURCES - len(gate.sources))
            sources.extend([places[source] for source in gate.sources])
            steps.append((places[name], BITS_OF_KIND[gate.kind], sources[0], sources[1], sources[2]))
    return steps


def list_moves(network, places):
    moves = []
    for name, gate in network.gates.items():
        if gate.kind in FIRST_BIT_OF_REGISTER:
            moves.append((places[name], places[gate.sources[0]]))
    return moves


def run_beats(machine, numbers):
    answers = []
    for number in numbers:
        set_inputs(machine, number)
        set_gates(machine)
        answers.append(read_outputs(machine))
        set_registers(machine)
    return answers


def set_inputs(machine, number):
    for index, place in enumerate(machine.input_places):
        machine.bits[place] = (number >> index) & 1


def set_gates(machine):
    bits = machine.bits
    for place, given, first, second, third in machine.steps:
        bits[place] = given[4 * bits[first] + 2 * bits[second] + bits[third]]


def read_outputs(machine):
    number = 0
    for index, place in enumerate(machine.output_places):
        number += machine.bits[place] << index
    return number


def set_registers(machine):
    # All are read before one is set: a register may take what another has in this beat.
    taken = [(place, machine.bits[source]) for place, source in machine.moves]
    for place, bit in taken:
        machine.bits[place] = bit


def are_comparable(one, other):
    if has_registers(one) or has_registers(other):
        return False
    if len(one.inputs) != len(other.inputs) or len(one.outputs) != len(other.outputs):
        return False
    return len(one.inputs) <= MOST_COMPARED_INPUTS


def has_registers(network):
    return any([gate.kind in FIRST_BIT_OF_REGISTER for gate in network.gates.values()])


def least_difference(one, other):
    # A column holds a name's bits for all numbers of a block, the least number's the lowest.
    how_many = len(one.input_places)
    within = min(how_many, INPUTS_IN_BLOCK)
    rows = 1 << within
    full = (1 << rows) - 1
    counting = [counting_column(index, rows) for index in range(within)]
    for block in range(1 << (how_many - within)):
        inputs = counting + [full * ((block >> index) & 1) for index in range(how_many - within)]
        rows_apart = differing_rows(output_columns(one, inputs, full), output_columns(other, inputs, full))
        if rows_apart != 0:
            return block * rows + lowest_place(rows_apart)
    return None


def counting_column(index, rows):
    return sum([1 << row for row in range(rows) if (row >> index) & 1 == 1])


def output_columns(machine, inputs, full):
    columns = [0] * len(machine.bits)
    for place, column in zip(machine.input_places, inputs):
        columns[place] = column
    for place, given, first, second, third in machine.steps:
        columns[place] = gate_column(given, columns[first], columns[second], columns[third], full)
    return [columns[place] for place in machine.output_places]


def gate_column(given, first, second, third, full):
    # A gate gives 1 where its sources have the bits of one of those places in which its kind's table has a 1.
    firsts = (full ^ first, first)
    seconds = (full ^ second, second)
    thirds = (full ^ third, third)
    column = 0
    for bits, bit in enumerate(given):
        if bit == 1:
            column |= firsts[bits >> 2] & seconds[(bits >> 1) & 1] & thirds[bits & 1]
    return column


def differing_rows(columns, others):
    rows_apart = 0
    for column, other in zip(columns, others):
        rows_apart |= column ^ other
    return rows_apart


def lowest_place(number):
    return (number & -number).bit_length() - 1


def longest_chain(gates):
    # What takes nothing in its own beat (inputs, registers, zero, one) begins chains and has no length of its own.
    lengths = {}
    longest = 0
    for name in order_gates(gates):
        sources = sources_at_once(gates[name])
        if len(sources) > 0:
            lengths[name] = 1 + max([lengths.get(source, 0) for source in sources])
            longest = max(longest, lengths[name])
    return longest
