"""Networks of gates and registers, read from texts of bytes."""

MOST_BYTES = 65536
MOST_NAMES = 1024
MOST_INPUTS = 64
MOST_OUTPUTS = 64
LONGEST_NAME = 15

LETTERS = "abcdefghijklmnopqrstuvwxyz"
NAME_SIGNS = "abcdefghijklmnopqrstuvwxyz0123456789_"
KNOWN_SIGNS = "\n\t #=abcdefghijklmnopqrstuvwxyz0123456789_"
STRANGE_SIGN = "?"

SOURCES_OF_KIND = {
    "zero": 0, "one": 0,
    "not": 1, "buf": 1, "reg": 1, "reg1": 1,
    "and": 2, "or": 2, "xor": 2, "nand": 2, "nor": 2, "xnor": 2,
    "maj": 3, "mux": 3,
}
REGISTERS = ("reg", "reg1")


class NoNetwork(ValueError):
    pass


class Gate:
    def __init__(self, kind, sources):
        self.kind = kind
        self.sources = sources


class Network:
    def __init__(self):
        # The inputs are a dict of their places, so that a name is found at once in a long list too.
        self.inputs = {}
        self.outputs = []
        self.gates = {}


def check(text):
    try:
        read_network(text)
    except NoNetwork:
        return [-1]
    return [0]


def read_network(text):
    if len(text) > MOST_BYTES:
        raise NoNetwork()
    network = Network()
    for line in spell(text).split("\n"):
        words = line.partition("#")[0].split()
        if len(words) > 0:
            read_line(network, words)
    refuse_too_many(network)
    refuse_unknown_names(network)
    refuse_loops(network)
    return network


def spell(text):
    # No word holds the strange sign, so it may stand for every byte that no word holds;
    # and no blank but space and tab is left for split to find.
    signs = {}
    for sign in KNOWN_SIGNS:
        signs[ord(sign)] = sign
    return "".join([signs.get(byte, STRANGE_SIGN) for byte in text])


def read_line(network, words):
    if words[0] == "in":
        add_inputs(network, words[1:])
    elif words[0] == "out":
        add_outputs(network, words[1:])
    else:
        add_gate(network, words)


def add_inputs(network, names):
    if len(names) == 0:
        raise NoNetwork()
    for name in names:
        refuse_as_new(network, name)
        network.inputs[name] = len(network.inputs)


def add_outputs(network, names):
    if len(names) == 0:
        raise NoNetwork()
    network.outputs.extend(names)


def add_gate(network, words):
    if len(words) < 3 or words[1] != "=" or words[2] not in SOURCES_OF_KIND:
        raise NoNetwork()
    name = words[0]
    kind = words[2]
    sources = words[3:]
    if len(sources) != SOURCES_OF_KIND[kind]:
        raise NoNetwork()
    refuse_as_new(network, name)
    network.gates[name] = Gate(kind, sources)


def is_name(word):
    if word == "in" or word == "out":
        return False
    if len(word) > LONGEST_NAME or word[0] not in LETTERS:
        return False
    return all([sign in NAME_SIGNS for sign in word])


def is_given(network, name):
    return name in network.inputs or name in network.gates


def refuse_as_new(network, word):
    if not is_name(word) or is_given(network, word):
        raise NoNetwork()


def refuse_too_many(network):
    if len(network.inputs) > MOST_INPUTS or len(network.outputs) > MOST_OUTPUTS:
        raise NoNetwork()
    if len(network.inputs) + len(network.gates) > MOST_NAMES:
        raise NoNetwork()


def refuse_unknown_names(network):
    # A name may be used ahead of the line that gives it, so this waits for the text's end.
    # A word that is no name is never given, so where it is used it is refused here too.
    for name in network.outputs:
        if not is_given(network, name):
            raise NoNetwork()
    for gate in network.gates.values():
        for name in gate.sources:
            if not is_given(network, name):
                raise NoNetwork()


def refuse_loops(network):
    if len(order_gates(network.gates)) < len(network.gates):
        raise NoNetwork()


def sources_at_once(gate):
    # A reg shows what its name had a beat before: it waits for nothing in this one.
    if gate.kind in REGISTERS:
        return []
    return gate.sources


def order_gates(gates):
    # Each gate comes behind those it takes in the same beat, so the ones that wait for themselves never come.
    takers = {}
    for name in gates:
        takers[name] = []
    waits = {}
    for name, gate in gates.items():
        awaited = [source for source in sources_at_once(gate) if source in gates]
        waits[name] = len(awaited)
        for source in awaited:
            takers[source].append(name)
    order = []
    ready = [name for name in gates if waits[name] == 0]
    while len(ready) > 0:
        done = ready.pop()
        order.append(done)
        for taker in takers[done]:
            waits[taker] -= 1
            if waits[taker] == 0:
                ready.append(taker)
    return order
