"""Promise 4: depth answers the length of the longest chain of gates; -1 of no network."""
import itertools
import time
import unittest

from gatenets.networks import depth
from tests.helpers import EXAMPLE, KINDS, MOST_BYTES, NO_NETWORKS, bytes_of, names, numbers_from, wide_names

BEGINNINGS = ("zero", "one", "reg", "reg1")
GATES = [kind for kind in KINDS if kind not in BEGINNINGS]
LONGEST = 200


def chain(length, kind="not", first="a", name="g"):
    """Lines of a chain of gates that begins behind the name `first`."""
    lines = []
    for k in range(length):
        before = first if k == 0 else f"{name}{k - 1}"
        lines.append(f"{name}{k} = {kind}" + f" {before}" * KINDS[kind] + "\n")
    return lines


class DepthTest(unittest.TestCase):
    def is_deep(self, text, length):
        self.assertEqual(depth(bytes_of(text)), [length], text[:300])


class Ordinary(DepthTest):
    def test_the_documents_example(self):
        self.is_deep(EXAMPLE, 2)

    def test_a_single_gate_of_each_kind(self):
        for kind in GATES:
            self.is_deep(f"in a b c\nout x\nx = {kind} " + " ".join("abc"[:KINDS[kind]]) + "\n", 1)

    def test_a_chain_of_each_kind(self):
        for kind in GATES:
            for length in (2, 3, 10):
                self.is_deep("in a\n" + "".join(chain(length, kind)), length)

    def test_a_chain_of_all_kinds(self):
        for kinds in (GATES, GATES[::-1]):
            lines = [f"g{k + 1} = {kind}" + f" g{k}" * KINDS[kind] + "\n" for k, kind in enumerate(kinds)]
            self.is_deep("in g0\n" + "".join(lines), len(GATES))

    def test_gates_beside_one_another(self):
        self.is_deep("in a b\nx = not a\ny = not b\nz = and a b\n", 1)
        self.is_deep(wide_names(100), 1)

    def test_chains_beside_one_another(self):
        long, short = chain(7, name="g"), chain(4, name="h")
        for lines in (long + short, short + long, long[::-1] + short[::-1], short[::-1] + long[::-1]):
            self.is_deep("in a\n" + "".join(lines), 7)

    def test_a_gate_whose_longest_chain_comes_by_way_of_each_of_its_names(self):
        for kind in GATES:
            for place in range(KINDS[kind]):
                for other in ("a", "h1"):
                    sources = [other] * KINDS[kind]
                    sources[place] = "g4"
                    lines = chain(5) + chain(2, name="h") + [f"x = {kind} " + " ".join(sources) + "\n"]
                    self.is_deep("in a\n" + "".join(lines), 6)
                    self.is_deep("in a\n" + "".join(lines[::-1]), 6)

    def test_a_gate_that_takes_chains_of_three_lengths(self):
        lines = chain(1, name="g") + chain(3, name="h") + chain(6, name="i")
        for order in itertools.permutations(("g0", "h2", "i5")):
            self.is_deep("in a\n" + "".join(lines) + "x = mux " + " ".join(order) + "\n", 7)

    def test_chains_that_meet_and_part(self):
        lines = ["s = not a\n", "l1 = not s\n", "l2 = not l1\n", "l3 = not l2\n", "r1 = not s\n", "m = and r1 l3\n",
                 "e1 = not m\n", "e2 = or m s\n", "e3 = xor e2 e1\n"]
        self.is_deep("in a\n" + "".join(lines), 7)
        for k in range(len(lines)):
            self.is_deep("in a\n" + "".join(lines[k:] + lines[:k]), 7)
            self.is_deep("in a\n" + "".join((lines[k:] + lines[:k])[::-1]), 7)

    def test_every_order_of_the_lines(self):
        lines = ["in a\n", "s = not a\n", "l = not s\n", "m = and s l\n", "n = and m a\n", "o = or s n\n"]
        for ordered in itertools.permutations(lines):
            self.is_deep("".join(ordered), 5)


class Edges(DepthTest):
    def test_a_text_without_bytes(self):
        self.is_deep("", 0)
        self.is_deep("# in a\n\n", 0)

    def test_inputs_and_outputs_alone(self):
        self.is_deep("in a b\n", 0)
        self.is_deep("in a b\nout b a a\n", 0)
        self.is_deep("in " + names(64) + "\nout " + names(64), 0)

    def test_zero_and_one_alone(self):
        for kind in ("zero", "one"):
            self.is_deep(f"x = {kind}\n", 0)
            self.is_deep(f"in a\nout x a\nx = {kind}\n", 0)
        self.is_deep("x = zero\ny = one\nout x y\n", 0)

    def test_a_gate_behind_zero_and_one(self):
        for kind in ("zero", "one"):
            self.is_deep(f"x = {kind}\ny = not x\n", 1)
            self.is_deep(f"y = buf x\nx = {kind}\n", 1)
            self.is_deep(f"x = {kind}\n" + "".join(chain(5, first="x")), 5)
        self.is_deep("in a\nx = zero\ny = one\nz = mux a x y\n", 1)

    def test_registers_alone(self):
        for kind in ("reg", "reg1"):
            self.is_deep(f"in a\nr = {kind} a\n", 0)
            self.is_deep(f"in a\nr = {kind} a\ns = {kind} r\nt = {kind} s\nout t\n", 0)
            self.is_deep(f"o = one\nr = {kind} o\n", 0)

    def test_a_register_of_itself(self):
        for kind in ("reg", "reg1"):
            self.is_deep(f"r = {kind} r\n", 0)
            self.is_deep(f"r = {kind} r\nx = not r\n", 1)

    def test_a_register_behind_a_chain(self):
        for kind in ("reg", "reg1"):
            self.is_deep("in a\n" + "".join(chain(4)) + f"r = {kind} g3\n", 4)
            self.is_deep(f"r = {kind} g3\n" + "".join(chain(4)[::-1]) + "in a\n", 4)

    def test_a_chain_behind_a_register(self):
        for kind in ("reg", "reg1"):
            self.is_deep(f"in a\nr = {kind} a\n" + "".join(chain(4, first="r")), 4)
            self.is_deep("".join(chain(4, first="r")[::-1]) + f"r = {kind} a\nin a\n", 4)

    def test_a_chain_on_either_side_of_a_register(self):
        for kind in ("reg", "reg1"):
            for ahead, behind in ((3, 5), (5, 3), (4, 4), (1, 1), (1, 0), (0, 1), (0, 0)):
                lines = chain(ahead, name="g")
                lines += [f"r = {kind} " + (f"g{ahead - 1}\n" if ahead else "a\n")]
                lines += chain(behind, first="r", name="h")
                self.is_deep("in a\n" + "".join(lines), max(ahead, behind))
                self.is_deep("in a\n" + "".join(lines[::-1]), max(ahead, behind))

    def test_a_gate_that_takes_a_register_and_a_chain(self):
        for kind in ("reg", "reg1"):
            self.is_deep("in a\n" + "".join(chain(6)) + f"r = {kind} g5\nx = and r g1\n", 6)
            self.is_deep("in a\n" + "".join(chain(6)) + f"r = {kind} g5\nx = and r g5\n", 7)

    def test_a_ring_by_way_of_a_register(self):
        for kind in ("reg", "reg1"):
            for length in (1, 2, 9):
                lines = chain(length, first="r") + [f"r = {kind} g{length - 1}\n"]
                self.is_deep("".join(lines), length)
                self.is_deep("".join(lines[::-1]), length)
            self.is_deep(f"r = {kind} s\ns = {kind} r\nx = xor r s\n", 1)

    def test_a_gate_that_takes_the_same_name_twice(self):
        self.is_deep("in a\nx = and a a\n", 1)
        self.is_deep("in a\nx = and a a\ny = or x x\nz = maj y y y\n", 3)
        self.is_deep("in a\nx = not a\ny = mux x a x\n", 2)

    def test_gates_that_no_output_takes(self):
        self.is_deep("in a\nout a\n" + "".join(chain(5)), 5)
        self.is_deep("in a\nout g1\n" + "".join(chain(5)), 5)
        self.is_deep("".join(chain(3, first="z")) + "z = zero\n", 3)

    def test_each_gate_used_ahead_of_the_line_that_gives_it(self):
        self.is_deep("out g8\n" + "".join(chain(9)[::-1]) + "in a\n", 9)

    def test_names_that_are_kinds(self):
        self.is_deep("in reg zero\nnot = and reg zero\none = not not\n", 2)

    def test_blanks_and_remarks_do_not_matter(self):
        self.is_deep("\tin a#b\n# x = not a\n\n y\t= not  a # y\nz = buf y#", 2)


class Refusals(DepthTest):
    def test_texts_that_are_no_network(self):
        for text in NO_NETWORKS:
            self.assertEqual(depth(bytes_of(text)), [-1], text[:80])

    def test_a_chain_that_comes_back_to_itself(self):
        for length in (1, 2, 3, 50):
            lines = chain(length, first=f"g{length - 1}")
            self.assertEqual(depth(bytes_of("".join(lines))), [-1])
            self.assertEqual(depth(bytes_of("in a\n" + "".join(chain(5, name="h") + lines))), [-1])


class Size(DepthTest):
    def answers_soon(self, text, number):
        self.assertLessEqual(len(text), MOST_BYTES)
        listed = bytes_of(text)
        begun = time.process_time()
        self.assertEqual(depth(listed), [number])
        self.assertLess(time.process_time() - begun, 2)

    def test_a_text_of_the_most_bytes(self):
        for filling in ("#", "\n", " ", "\t\n"):
            self.answers_soon((EXAMPLE + filling * MOST_BYTES)[:MOST_BYTES], 2)
            self.answers_soon((filling * MOST_BYTES)[:MOST_BYTES], 0)
        self.answers_soon("a " * (MOST_BYTES // 2), -1)

    def test_a_network_of_the_most_names(self):
        self.answers_soon(wide_names(1024), 1)
        lines = []
        for k in range(1023):
            before = "a" if k % LONGEST == 0 else f"g{k - 1}"
            lines.append(f"g{k} = maj {before} {before} a\n")
        self.answers_soon("in a\n" + "".join(lines), LONGEST)
        self.answers_soon("in a\n" + "".join(lines[::-1]), LONGEST)
        text = "in a\n" + "".join(lines)
        self.answers_soon("#" * (MOST_BYTES - len(text) - 1) + "\n" + text, LONGEST)

    def test_a_chain_of_200_gates(self):
        for kind in GATES:
            lines = chain(LONGEST, kind)
            self.answers_soon("in a\n" + "".join(lines), LONGEST)
            self.answers_soon("".join(lines[::-1]) + "in a\n", LONGEST)

    def test_very_many_chains_to_one_gate(self):
        # Layers of five, each gate of which takes three of the layer before: 3 chains become 9, 27, ..
        lines = [f"g0_{k} = not a\n" for k in range(5)]
        for layer in range(1, LONGEST):
            for k in range(5):
                before = " ".join(f"g{layer - 1}_{(k + step) % 5}" for step in range(3))
                lines.append(f"g{layer}_{k} = maj {before}\n")
        self.answers_soon("in a\n" + "".join(lines), LONGEST)
        self.answers_soon("in a\n" + "".join(lines[::-1]), LONGEST)

    def test_very_many_chains_of_unlike_lengths_to_one_gate(self):
        lines = ["g0 = not a\n", "g1 = and g0 a\n"]
        lines += [f"g{k} = maj g{k - 1} g{k - 2} g{k // 2}\n" for k in range(2, LONGEST)]
        self.answers_soon("in a\n" + "".join(lines), LONGEST)
        self.answers_soon("in a\n" + "".join(lines[::-1]), LONGEST)

    def test_the_most_registers(self):
        lines = [f"r{k} = reg r{(k + 1) % 1024}\n" for k in range(1024)]
        self.answers_soon("".join(lines), 0)


class SecondReading(DepthTest):
    def longest(self, lines):
        """By lengths that grow as long as one of them is too short."""
        gates = {words[0]: words[2:] for words in (line.split() for line in lines) if words[1:2] == ["="]}
        lengths = {name: 0 for name in gates}
        grown = True
        while grown:
            grown = False
            for name, (kind, *sources) in gates.items():
                wanted = 0 if kind in BEGINNINGS else 1 + max(lengths.get(source, 0) for source in sources)
                grown = grown or wanted != lengths[name]
                lengths[name] = wanted
        return max(lengths.values(), default=0)

    def test_made_networks(self):
        for seed in range(1000):
            chosen = numbers_from(seed)
            lines, listed = [], ["a", "b"]
            gates = [f"g{k}" for k in range(next(chosen) % 40)]
            for name in gates:
                kind = list(KINDS)[next(chosen) % len(KINDS)]
                allowed = ["a", "b"] + gates if kind in ("reg", "reg1") else listed[-6:]
                sources = [allowed[next(chosen) % len(allowed)] for _ in range(KINDS[kind])]
                lines.append(" ".join([name, "=", kind] + sources))
                listed.append(name)
            lines = sorted(lines + ["in a b"], key=lambda line: next(chosen))
            self.is_deep("\n".join(lines), self.longest(lines))


class Interface(unittest.TestCase):
    TEXTS = ("", EXAMPLE, "in", "x = not x\n", "in a\nout a\n", "x = one\ny = not x\n", "r = reg r\n", "\x00\xff#\x80")

    def test_what_is_given_back_is_a_list_of_whole_numbers(self):
        for text in self.TEXTS:
            answer = depth(bytes_of(text))
            self.assertIs(type(answer), list)
            self.assertEqual([type(number) for number in answer], [int])

    def test_what_is_handed_in_stays_the_same(self):
        for text in self.TEXTS:
            handed = bytes_of(text)
            depth(handed).append(7)
            self.assertEqual(handed, bytes_of(text))

    def test_the_same_call_twice_in_a_row(self):
        for text in self.TEXTS:
            handed = bytes_of(text)
            first = depth(handed)
            self.assertEqual(depth(handed), first)
            first.append(7)
            self.assertEqual(depth(handed), first[:-1])

    def test_the_argument_is_called_text(self):
        self.assertEqual(depth(text=bytes_of(EXAMPLE)), [2])


if __name__ == "__main__":
    unittest.main()
