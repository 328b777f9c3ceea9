"""Promise 1 again: check against another reading of the document, over many texts near to networks."""
import re
import unittest

from gatenets.networks import check

SEEDS = (
    b"in a b\nout x\nx = and a b\n",
    b"in a#b\nin c\n\nx = mux a c y\ny = reg1 x\nout y a",
    b"u=v\nx = zero\n",
    b"x = not y\ny = reg x\nz = xor x z2\nz2 = buf y\n",
    b"in abcdefghijklmno\n\tout abcdefghijklmno # end",
)
NAME = rb"(?!(?:in|out)(?![a-z0-9_]))[a-z][a-z0-9_]{0,14}(?![a-z0-9_])"
SEVERAL = rb"((?:[ \t]+" + NAME + rb")+)"
PORTS = re.compile(rb"[ \t]*(in|out)" + SEVERAL + rb"[ \t]*")
KINDS = (
    (rb"zero|one", 0),
    (rb"not|buf|reg|reg1", 1),
    (rb"and|or|xor|nand|nor|xnor", 2),
    (rb"maj|mux", 3),
)
GATES = tuple(
    re.compile(rb"[ \t]*(" + NAME + rb")[ \t]+=[ \t]+(" + kinds + rb")((?:[ \t]+" + NAME + rb"){%d})[ \t]*" % takes)
    for kinds, takes in KINDS
)


def second_reading(text):
    """0 or -1, by patterns for whole lines and a walk from each name to all that it depends on."""
    inputs, outputs, gates = [], [], []
    for line in text.split(b"\n"):
        line = re.sub(rb"#.*", b"", line, flags=re.DOTALL)
        ports = PORTS.fullmatch(line)
        found = [match for match in (gate.fullmatch(line) for gate in GATES) if match]
        if ports:
            (inputs if ports[1] == b"in" else outputs).extend(ports[2].split())
        elif found:
            gates.append((found[0][1], found[0][2], found[0][3].split()))
        elif line.strip(b" \t"):
            return -1
    given = inputs + [name for name, _, _ in gates]
    used = outputs + [name for _, _, sources in gates for name in sources]
    if len(set(given)) != len(given) or set(used) - set(given):
        return -1
    if len(given) > 1024 or len(inputs) > 64 or len(outputs) > 64:
        return -1
    takes = {name: [] if kind in (b"reg", b"reg1") else sources for name, kind, sources in gates}
    return -1 if any(name in all_behind(name, takes) for name in takes) else 0


def all_behind(name, takes):
    behind = set()
    left = list(takes[name])
    while left:
        source = left.pop()
        if source not in behind:
            behind.add(source)
            left.extend(takes.get(source, []))
    return behind


class SecondReading(unittest.TestCase):
    def agree(self, texts):
        answers = set()
        for text in texts:
            answer = second_reading(text)
            answers.add(answer)
            self.assertEqual(check(list(text)), [answer], text)
        self.assertEqual(answers, {0, -1})

    def test_each_byte_put_in_each_place_of_a_text(self):
        signs = list(b"\x00\t\n\r #=?aAx0_\x80\xff") + [11, 12, 28, 133, 160]
        for seed in SEEDS:
            places = range(len(seed) + 1)
            self.agree([seed[:k] + bytes([sign]) + seed[k:] for k in places for sign in signs])

    def test_each_byte_in_the_place_of_each(self):
        for seed in SEEDS[:2]:
            self.agree([seed[:k] + bytes([sign]) + seed[k + 1:] for k in range(len(seed)) for sign in range(256)])

    def test_each_stretch_left_out(self):
        for seed in SEEDS:
            size = len(seed)
            self.agree([seed[:k] + seed[m:] for k in range(size) for m in range(k + 1, size + 1)])

    def test_all_small_nets_of_three_gates(self):
        choices = [b"= not p", b"= not q", b"= reg r", b"= and p q", b"= or q r", b"= reg1 p", b"= one", b"= buf s"]
        self.agree([
            b"p " + one + b"\nq " + two + b"\nr " + three + b"\nout p"
            for one in choices for two in choices for three in choices
        ])


if __name__ == "__main__":
    unittest.main()
