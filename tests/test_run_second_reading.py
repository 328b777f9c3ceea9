"""Promise 2 again: run against another reading of the document, over many networks."""
import functools
import itertools
import unittest

from gatenets.networks import check, run
from tests.helpers import GIVES, KINDS, numbers_from


def second_reading(text, told):
    """What is asked of each output is asked of what it takes, back to the inputs and the first beat."""
    lines = [line.split() for line in text.split("\n")]
    inputs = [name for words in lines if words[:1] == ["in"] for name in words[1:]]
    outputs = [name for words in lines if words[:1] == ["out"] for name in words[1:]]
    gates = {words[0]: words[2:] for words in lines if words[1:2] == ["="]}

    @functools.cache
    def has(name, beat):
        if name in inputs:
            return told[beat] // 2 ** inputs.index(name) % 2 == 1
        kind, *sources = gates[name]
        if kind in ("reg", "reg1"):
            return has(sources[0], beat - 1) if beat > 0 else kind == "reg1"
        return GIVES[kind](*[has(source, beat) for source in sources])

    # Beat after beat, so that no register is asked for more than the beat before.
    for beat, name in itertools.product(range(len(told)), gates):
        has(name, beat)
    return [sum(2 ** place for place, name in enumerate(outputs) if has(name, beat)) for beat in range(len(told))]


def split_somewhere(word, listed, chosen):
    """The names in one line or in two."""
    cut = next(chosen) % (len(listed) + 1)
    return [" ".join([word] + part) for part in (listed[:cut], listed[cut:]) if part]


def made_network(seed):
    """Gates take earlier ones, registers take any; the lines are then put in some order."""
    chosen = numbers_from(seed)
    inputs = [f"i{k}" for k in range(next(chosen) % 7)]
    gates = [f"g{k}" for k in range(1 + next(chosen) % 30)]
    lines = []
    for k, name in enumerate(gates):
        kind = list(KINDS)[next(chosen) % len(KINDS)]
        earlier = inputs + gates[:k]
        if not earlier and kind not in ("reg", "reg1"):
            kind = ("zero", "one")[next(chosen) % 2]
        allowed = inputs + gates if kind in ("reg", "reg1") else earlier
        sources = [allowed[next(chosen) % len(allowed)] for _ in range(KINDS[kind])]
        lines.append(" ".join([name, "=", kind] + sources))
    outputs = [(inputs + gates)[next(chosen) % len(inputs + gates)] for _ in range(next(chosen) % 12)]
    lines = sorted(lines, key=lambda line: next(chosen))
    for port in split_somewhere("in", inputs, chosen) + split_somewhere("out", outputs, chosen):
        # Behind the ports put in before it, so that their order stays.
        behind = max([k + 1 for k, line in enumerate(lines) if line.split()[0] == port.split()[0]], default=0)
        lines.insert(behind + next(chosen) % (len(lines) + 1 - behind), port)
    told = [(next(chosen) << 48) + next(chosen) for _ in range(next(chosen) % 12)]
    return "\n".join(lines), told


class SecondReading(unittest.TestCase):
    def agree(self, text, told):
        handed = list(text.encode())
        self.assertEqual(check(handed), [0], text)
        self.assertEqual(run(handed, told), [0] + second_reading(text, told), (text, told))

    def test_made_networks(self):
        for seed in range(1500):
            self.agree(*made_network(seed))

    def test_all_nets_of_two_gates_and_a_register(self):
        some = ("not a", "not r", "nand a r", "xor r a", "mux a r b", "mux r a b", "maj a b r", "one")
        others = ("buf x", "nor x r", "xnor x a", "mux x a r", "mux b x r", "zero")
        moved = ("reg a", "reg1 a", "reg x", "reg1 y", "reg y", "reg1 r")
        told = [0, 3, 1, 2, 2, 1, 3, 0]
        for one, two, three in itertools.product(some, others, moved):
            self.agree(f"out y r x\nr = {three}\ny = {two}\nx = {one}\nin a b\n", told)


if __name__ == "__main__":
    unittest.main()
