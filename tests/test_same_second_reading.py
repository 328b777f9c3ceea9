"""Promise 3 again: same against another reading of the document, over many pairs of networks."""
import itertools
import unittest

from gatenets.networks import run, same
from tests.helpers import GIVES, KINDS, numbers_from

GATES = [kind for kind in KINDS if kind in GIVES]


def outputs_at(text, number):
    """What the outputs are at a number, by asking each back to the inputs."""
    lines = [line.split() for line in text.split("\n")]
    inputs = [name for words in lines if words[:1] == ["in"] for name in words[1:]]
    outputs = [name for words in lines if words[:1] == ["out"] for name in words[1:]]
    gates = {words[0]: words[2:] for words in lines if words[1:2] == ["="]}
    known = {name: number // 2 ** place % 2 == 1 for place, name in enumerate(inputs)}

    def has(name):
        if name not in known:
            kind, *sources = gates[name]
            known[name] = GIVES[kind](*[has(source) for source in sources])
        return known[name]

    return [has(name) for name in outputs]


def second_reading(a, b, inputs):
    for number in range(2 ** inputs):
        if outputs_at(a, number) != outputs_at(b, number):
            return [0, number]
    return [1]


def made_network(chosen, inputs, outputs, gates):
    listed = [f"i{k}" for k in range(inputs)]
    lines = []
    for k in range(gates):
        kind = GATES[next(chosen) % len(GATES)] if listed else ("zero", "one")[next(chosen) % 2]
        sources = [listed[next(chosen) % len(listed)] for _ in range(KINDS[kind])]
        lines.append(" ".join([f"g{k}", "=", kind] + sources))
        listed.append(f"g{k}")
    lines = sorted(lines, key=lambda line: next(chosen))
    if inputs:
        lines.append("in " + " ".join(listed[:inputs]))
    if outputs:
        # Late gates, so that long ways lead to the outputs.
        lines.append("out " + " ".join(listed[-1 - next(chosen) % min(4, len(listed))] for _ in range(outputs)))
    return lines


def changed(chosen, lines):
    """One gate of another kind that takes as many names: such networks often differ at few numbers."""
    at = next(chosen) % len(lines)
    words = lines[at].split()
    if words[1] != "=":
        return lines
    fitting = [kind for kind in GATES if KINDS[kind] == KINDS[words[2]]]
    words[2] = fitting[next(chosen) % len(fitting)]
    return lines[:at] + [" ".join(words)] + lines[at + 1:]


class SecondReading(unittest.TestCase):
    def agree(self, a, b, inputs):
        answer = same(list(a.encode()), list(b.encode()))
        self.assertEqual(answer, second_reading(a, b, inputs), (a, b))
        return answer

    def test_made_networks(self):
        answers = []
        for seed in range(700):
            chosen = numbers_from(seed)
            inputs, outputs = next(chosen) % 7, next(chosen) % 4
            one = made_network(chosen, inputs, outputs, 1 + next(chosen) % 15)
            other = made_network(chosen, inputs, outputs, 1 + next(chosen) % 15)
            answers.append(self.agree("\n".join(one), "\n".join(other), inputs))
            answers.append(self.agree("\n".join(one), "\n".join(changed(chosen, one)), inputs))
        # Only where all answers come do these networks say much.
        self.assertGreater(answers.count([1]), 100)
        self.assertGreater(len({answer[1] for answer in answers if answer[0] == 0}), 10)

    def test_all_pairs_of_two_gates(self):
        some = ("not a", "and a b", "nor b c", "xor a c", "mux a b c", "maj a b c", "one")
        others = ("buf x", "nand x c", "or x a", "xnor x b", "mux x a b", "mux b x c", "zero")
        texts = [f"in a b c\nout y\ny = {two}\nx = {one}\n" for one, two in itertools.product(some, others)]
        for a, b in itertools.product(texts, repeat=2):
            self.agree(a, b, 3)

    def test_made_networks_of_many_inputs_by_way_of_run(self):
        for seed in range(12):
            chosen = numbers_from(1000 + seed)
            inputs = 11 + seed % 4
            one = made_network(chosen, inputs, 2, 25)
            other = changed(chosen, one)
            for _ in range(seed % 3):
                other = changed(chosen, other)
            handed = [list("\n".join(lines).encode()) for lines in (one, other)]
            given = [run(text, list(range(2 ** inputs)))[1:] for text in handed]
            apart = [number for number in range(2 ** inputs) if given[0][number] != given[1][number]]
            self.assertEqual(same(*handed), [0, apart[0]] if apart else [1], (one, other))


if __name__ == "__main__":
    unittest.main()
