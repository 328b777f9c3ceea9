"""Promise 2: run answers 0 and the outputs' bits in each beat; -1 of no network; else -2 of too many beats."""
import itertools
import time
import unittest

from gatenets.networks import run
from tests.helpers import EXAMPLE, KINDS, MOST_BYTES, NO_NETWORKS, bytes_of, names, wide_names

MOST_HANDED_IN = 16000
MOST_BEATS = 65536
HIGHEST = 2 ** 64 - 1
# Written out by hand from the sources' bits, the first source's leftmost.
GIVEN = {
    "zero": {"": 0},
    "one": {"": 1},
    "not": {"0": 1, "1": 0},
    "buf": {"0": 0, "1": 1},
    "and": {"00": 0, "01": 0, "10": 0, "11": 1},
    "or": {"00": 0, "01": 1, "10": 1, "11": 1},
    "xor": {"00": 0, "01": 1, "10": 1, "11": 0},
    "nand": {"00": 1, "01": 1, "10": 1, "11": 0},
    "nor": {"00": 1, "01": 0, "10": 0, "11": 0},
    "xnor": {"00": 1, "01": 0, "10": 0, "11": 1},
    "maj": {"000": 0, "001": 0, "010": 0, "011": 1, "100": 0, "101": 1, "110": 1, "111": 1},
    "mux": {"000": 0, "001": 1, "010": 0, "011": 1, "100": 0, "101": 0, "110": 1, "111": 1},
}


class RunTest(unittest.TestCase):
    def gives(self, text, inputs, outputs):
        self.is_answer(run(bytes_of(text), inputs), outputs, text)

    def is_answer(self, answer, outputs, text):
        # Not by assertEqual of the whole lists: to show how long ones differ takes it minutes.
        self.assertEqual(answer[:1], [0], repr(text[:80]))
        self.assertEqual(len(answer), 1 + len(outputs), repr(text[:80]))
        for beat, output in enumerate(outputs):
            if answer[1 + beat] != output:
                self.fail(f"{text[:80]!r} in beat {beat}: {answer[1 + beat]}, not {output}")

    def refuses(self, text, inputs, number):
        answer = run(bytes_of(text), inputs)
        self.assertEqual((len(answer), answer[0]), (1, number), repr(text[:80]))


class Ordinary(RunTest):
    def test_the_documents_example(self):
        # sum is the lowest bit and carry the next: together how many of a, b, c are 1.
        how_many = [0, 1, 1, 2, 1, 2, 2, 3]
        self.gives(EXAMPLE, list(range(8)), how_many)
        self.gives(EXAMPLE, list(range(7, -1, -1)), how_many[::-1])
        self.gives(EXAMPLE, list(range(8)) * 3, how_many * 3)

    def test_the_documents_example_with_its_register_as_an_output(self):
        text = EXAMPLE + "out old\n"
        self.gives(text, [1, 0, 7, 3, 3], [1, 0 + 4, 3, 2 + 4, 2])

    def test_each_kind_with_all_bits(self):
        self.assertEqual(sorted(GIVEN), sorted(set(KINDS) - {"reg", "reg1"}))
        for kind, table in GIVEN.items():
            takes = KINDS[kind]
            text = "in a b c\nout x\n" + f"x = {kind} " + " ".join("abc"[:takes]) + "\n"
            for bits, bit in table.items():
                number = sum(int(sign) << place for place, sign in enumerate(bits))
                for others in range(8 >> takes):
                    self.gives(text, [number + (others << takes)], [bit])

    def test_a_kind_that_takes_its_sources_from_inputs_in_another_order(self):
        for order in itertools.permutations("sab"):
            text = "in " + " ".join(order) + "\nout x\nx = mux s a b\n"
            for s, a, b in itertools.product((0, 1), repeat=3):
                told = {"s": s, "a": a, "b": b}
                number = sum(told[name] << place for place, name in enumerate(order))
                self.gives(text, [number], [a if s == 1 else b])

    def test_a_kind_that_takes_one_name_several_times(self):
        for kind, takes in KINDS.items():
            if takes > 1:
                table = GIVEN[kind]
                text = f"in a\nout x\nx = {kind}" + " a" * takes
                self.gives(text, [0, 1], [table["0" * takes], table["1" * takes]])

    def test_zero_and_one_in_every_beat(self):
        self.gives("out z o\nz = zero\no = one\n", [0, 3, HIGHEST], [2, 2, 2])
        self.gives("in a\nout x y\nz = zero\no = one\nx = and a o\ny = or a z\n", [0, 1, 0], [0, 3, 0])

    def test_gates_of_gates(self):
        text = "in a b c d\nout x\nu = and a b\nv = nor c d\nw = xor u v\nx = mux w u v\n"
        for number in range(16):
            a, b, c, d = [number >> place & 1 for place in range(4)]
            u, v = a & b, 1 - (c | d)
            self.gives(text, [number], [u if u != v else v])

    def test_an_adder_of_32_bits(self):
        lines = ["in" + "".join(f" a{k}" for k in range(32)), "in" + "".join(f" b{k}" for k in range(32))]
        lines += ["c0 = zero"]
        for k in range(32):
            lines += [f"t{k} = xor a{k} b{k}", f"s{k} = xor t{k} c{k}", f"c{k + 1} = maj a{k} b{k} c{k}", f"out s{k}"]
        lines += ["out c32"]
        pairs = [(0, 0), (1, 1), (2 ** 32 - 1, 1), (2 ** 32 - 1, 2 ** 32 - 1), (123456789, 987654321), (5, 2 ** 31)]
        self.gives("\n".join(lines), [a + (b << 32) for a, b in pairs], [a + b for a, b in pairs])


class Registers(RunTest):
    def test_a_register_of_an_input(self):
        told = [1, 0, 0, 1, 1, 1, 0, 1]
        self.gives("in a\nout r\nr = reg a\n", told, [0] + told[:-1])
        self.gives("in a\nout r\nr = reg1 a\n", told, [1] + told[:-1])

    def test_the_first_beat(self):
        for bit in (0, 1):
            self.gives("in a\nout r s\nr = reg a\ns = reg1 a\n", [bit], [2])

    def test_a_register_of_a_gate(self):
        self.gives("in a b\nout r\nr = reg x\nx = and a b\n", [3, 1, 3, 3, 0], [0, 1, 0, 1, 1])
        self.gives("in a b\nout r\nr = reg1 x\nx = nand a b\n", [3, 1, 3, 3, 0], [1, 0, 1, 0, 0])

    def test_a_register_of_a_register(self):
        told = [1, 0, 1, 1, 0, 0, 1]
        self.gives("in a\nout s\nr = reg a\ns = reg r\n", told, [0, 0] + told[:-2])
        self.gives("in a\nout s\ns = reg r\nr = reg a\n", told, [0, 0] + told[:-2])
        self.gives("in a\nout s\nr = reg1 a\ns = reg r\n", told, [0, 1] + told[:-2])
        self.gives("in a\nout s\ns = reg1 r\nr = reg a\n", told, [1, 0] + told[:-2])

    def test_a_register_of_itself(self):
        self.gives("out r\nr = reg r\n", [0, 1, 0], [0, 0, 0])
        self.gives("out r\nr = reg1 r\n", [0, 1, 0], [1, 1, 1])

    def test_a_register_of_zero_and_of_one(self):
        text = "z = zero\no = one\na = reg z\nb = reg o\nc = reg1 z\nd = reg1 o\nout a b c d\n"
        self.gives(text, [0, 0, 0], [0b1100, 0b1010, 0b1010])

    def test_two_registers_that_take_one_anothers_place(self):
        for lines in (["r = reg s\n", "s = reg1 r\n"], ["s = reg1 r\n", "r = reg s\n"]):
            self.gives("out r s\n" + "".join(lines), [0] * 5, [2, 1, 2, 1, 2])

    def test_registers_in_a_ring(self):
        for length in (3, 7, 64):
            lines = [f"n{k} = reg n{(k - 1) % length}\n" for k in range(1, length)] + [f"n0 = reg1 n{length - 1}\n"]
            seen = [1 << beat % length for beat in range(3 * length)]
            for ordered in (lines, lines[::-1], lines[1::2] + lines[::2]):
                self.gives(f"out {names(length)}\n" + "".join(ordered), [0] * len(seen), seen)

    def test_a_gate_that_depends_on_itself_by_way_of_a_register(self):
        self.gives("out r\nr = reg x\nx = not r\n", [0] * 5, [0, 1, 0, 1, 0])
        self.gives("out x\nx = not r\nr = reg x\n", [0] * 5, [1, 0, 1, 0, 1])
        self.gives("out r\nr = reg1 x\nx = not r\n", [0] * 5, [1, 0, 1, 0, 1])
        self.gives("in a\nout x\nx = xor a r\nr = reg x\n", [1, 0, 1, 1, 0], [1, 1, 0, 1, 1])
        self.gives("in a\nout x\nx = or a r\nr = reg x\n", [0, 1, 0, 0], [0, 1, 1, 1])

    def test_a_counter(self):
        text = "in up\nout a b c\nna = xor a up\na = reg na\nca = and a up\nnb = xor b ca\nb = reg nb\n"
        text += "cb = and b ca\nnc = xor c cb\nc = reg nc\n"
        self.gives(text, [1] * 20, [beat % 8 for beat in range(20)])
        self.gives(text, [1, 0, 0, 1, 1, 0, 1], [0, 1, 1, 1, 2, 3, 3])

    def test_a_register_used_ahead_of_the_line_that_gives_it(self):
        self.gives("out x r\nx = not r\nr = reg a\nin a\n", [1, 1, 0, 0], [1, 2, 2, 1])
        self.gives("out x r\nx = not r\nr = reg1 a\nin a\n", [1, 1, 0, 0], [2, 2, 2, 1])

    def test_a_register_that_no_output_needs(self):
        self.gives("in a\nout a\nr = reg1 s\ns = reg r\n", [1, 0, 1], [1, 0, 1])

    def test_a_long_line_of_registers(self):
        lines = ["in a\n"] + [f"g{k} = reg1 g{k - 1}\n" for k in range(1, 1023)] + ["g0 = reg1 a\n", "out g1022\n"]
        told = [beat * beat // 3 % 2 for beat in range(2000)]
        self.gives("".join(lines), told, [1] * 1023 + told[:-1023])


class Edges(RunTest):
    def test_no_beats(self):
        for text in ("", EXAMPLE, "in a\n", "out r\nr = reg1 r\n"):
            self.gives(text, [], [])

    def test_one_beat(self):
        self.gives(EXAMPLE, [5], [2])
        self.gives("", [5], [0])

    def test_a_network_without_inputs(self):
        self.gives("out x\nx = one\n", [0, 1, HIGHEST], [1, 1, 1])

    def test_a_network_without_outputs(self):
        self.gives("in a\nx = not a\ny = reg1 x\n", [0, 1, HIGHEST], [0, 0, 0])

    def test_a_text_without_bytes(self):
        self.gives("", [0, 1, HIGHEST], [0, 0, 0])

    def test_each_of_64_inputs_and_outputs(self):
        text = f"in {names(64)}\nout {names(64)}\n"
        told = [0, 2 ** 63, HIGHEST, HIGHEST - 1, 0x123456789ABCDEF0] + [1 << place for place in range(64)]
        self.gives(text, told, told)

    def test_64_inputs_the_other_way_round(self):
        text = f"in {names(64)}\nout " + " ".join(reversed(names(64).split())) + "\n"
        self.gives(text, [1 << place for place in range(64)], [1 << 63 - place for place in range(64)])
        self.gives(text, [2 ** 63, 1, HIGHEST], [1, 2 ** 63, HIGHEST])

    def test_64_outputs_of_gates(self):
        gates = "".join(f"m{k} = not n{k}\n" for k in range(64))
        outputs = "out " + names(64).replace("n", "m") + "\n"
        told = [0, HIGHEST, 2 ** 63, 2 ** 63 - 1, 1]
        self.gives(f"in {names(64)}\n" + outputs + gates, told, [HIGHEST - number for number in told])

    def test_bits_above_the_inputs_own(self):
        for above in (8, 2 ** 63, HIGHEST - 7):
            self.gives(EXAMPLE, [number + above for number in range(8)], [0, 1, 1, 2, 1, 2, 2, 3])
            self.gives("in a b c\nout c b a\n", [above, above + 1], [0, 4])
        self.gives("in a\nout r a\nr = reg a\n", [HIGHEST, HIGHEST - 1, 2], [2, 1, 0])

    def test_two_outputs_of_the_same_name(self):
        self.gives("in a b\nout a a\nout b a\n", [0, 1, 2, 3], [0, 11, 4, 15])
        self.gives("in a\nout" + " x" * 64 + "\nx = not a\n", [0, 1], [HIGHEST, 0])

    def test_an_input_that_is_an_output(self):
        self.gives("in a b\nout b x a\nx = and a b\n", [0, 1, 2, 3], [0, 4, 1, 7])

    def test_several_lines_of_inputs_and_outputs(self):
        self.gives("in b\nout c\nin a\nout a\nout b\nin c\n", [1, 2, 4], [4, 2, 1])
        self.gives("out y\nin d c\nx = not c\nout x d\ny = buf d\nin a\nout a\n", [0, 1, 2, 4, 7], [2, 7, 0, 10, 13])

    def test_names_that_are_not_in_the_alphabets_order(self):
        self.gives("in z m a\nout m z a\n", [1, 2, 4], [2, 1, 4])

    def test_names_that_are_kinds(self):
        self.gives("in not zero\nout reg and\nand = or not zero\nreg = reg1 and\n", [0, 1, 0, 2], [1, 2, 1, 2])

    def test_each_gate_used_ahead_of_the_line_that_gives_it(self):
        lines = ["out d", "d = xor c b", "c = nand b a2", "b = or a2 a", "a2 = not a", "in a"]
        self.gives("\n".join(lines), [0, 1], [1, 0])
        lines = ["out s c", "c = maj x y z", "s = xor t z", "t = xor x y"]
        lines += ["x = buf i", "y = buf j", "z = buf k", "in i j k"]
        self.gives("\n".join(lines), list(range(8)), [0, 1, 1, 2, 1, 2, 2, 3])

    def test_every_order_of_the_lines_of_a_network(self):
        lines = ["in a b\n", "out x r\n", "x = xor y r\n", "y = nand a b\n", "r = reg1 z\n", "z = and x b\n"]
        for ordered in itertools.permutations(lines):
            self.gives("".join(ordered), [3, 2, 1, 3, 0], [3, 2, 1, 0, 1])

    def test_blanks_and_remarks_do_not_matter(self):
        self.gives("\t in\ta # b\n\n# out b\n out  x#y\nx\t= not a#b", [0, 1], [1, 0])


class Refusals(RunTest):
    def test_a_text_that_is_no_network(self):
        for text in NO_NETWORKS:
            for inputs in ([], [0], [1, 2, 3], [HIGHEST] * 100):
                self.refuses(text, inputs, -1)

    def test_as_many_beats_as_there_may_be(self):
        self.gives("in a\nout x\nx = not a\n", [0, 1] * (MOST_BEATS // 2), [1, 0] * (MOST_BEATS // 2))

    def test_more_beats(self):
        for beats in (MOST_BEATS + 1, MOST_BEATS + 2, 100000):
            self.refuses(EXAMPLE, [0] * beats, -2)
            self.refuses("", [0] * beats, -2)

    def test_no_network_is_told_ahead_of_more_beats(self):
        for text in NO_NETWORKS:
            self.refuses(text, [0] * (MOST_BEATS + 1), -1)


class Size(RunTest):
    def gives_soon(self, text, inputs, outputs):
        self.assertLessEqual(len(text), MOST_BYTES)
        listed = bytes_of(text)
        begun = time.process_time()
        answer = run(listed, inputs)
        self.assertLess(time.process_time() - begun, 10)
        self.is_answer(answer, outputs, text)

    def test_a_text_of_the_most_bytes(self):
        for filling in ("#", "\n", " ", "\t\n"):
            text = (EXAMPLE + filling * MOST_BYTES)[:MOST_BYTES]
            self.gives_soon(text, list(range(8)), [0, 1, 1, 2, 1, 2, 2, 3])
        self.refuses("a " * (MOST_BYTES // 2), [1] * MOST_HANDED_IN, -1)

    def test_a_network_of_the_most_names(self):
        text = wide_names(1024) + "out " + " ".join(f"g{k}" for k in range(959, 1023))
        self.gives_soon(text, [0, 1] * 50, [HIGHEST, 0] * 50)

    def test_a_network_of_the_most_names_in_the_most_beats(self):
        lines = ["in " + names(64) + "\n"]
        for k in range(960):
            before = f"n{k % 64}" if k % 200 == 0 else f"g{k - 1}"
            lines.append(f"g{k} = {'reg' if k % 3 == 0 else 'maj'} {before}" + (" n0 n0\n" if k % 3 else "\n"))
        lines.append("out g959\n")
        told = [beat // 7 % 2 for beat in range(MOST_HANDED_IN)]
        self.gives_soon("".join(lines[::-1]), told, told)

    def test_a_chain_of_200_gates(self):
        lines = ["in a\n", "g0 = not a\n"] + [f"g{k} = not g{k - 1}\n" for k in range(1, 200)] + ["out g198 g199\n"]
        for ordered in (lines, lines[::-1]):
            self.gives_soon("".join(ordered), [0, 1] * 100, [1, 2] * 100)

    def test_the_most_beats_that_are_handed_in(self):
        told = [beat * beat % 11 % 8 for beat in range(MOST_HANDED_IN)]
        self.gives_soon(EXAMPLE, told, [number.bit_count() for number in told])
        self.gives_soon("out r\nr = reg x\nx = not r\n", told, [0, 1] * (MOST_HANDED_IN // 2))


class Interface(unittest.TestCase):
    CALLS = (
        ("", []), ("", [1, 2]), (EXAMPLE, []), (EXAMPLE, [0, 7, HIGHEST]), ("in", [1]), ("x = not x", []),
        ("out x r s\nx = one\nr = reg x\ns = reg1 x\n", [0, 0, 0]), ("in a\nout a a\n", [3, 2, 1]),
        ("in a\nout x\nx = xnor a a\n", [0, 1]),
    )

    def test_what_is_given_back_is_a_list_of_whole_numbers(self):
        for text, inputs in self.CALLS + (("", [0] * (MOST_BEATS + 1)),):
            answer = run(bytes_of(text), inputs)
            self.assertIs(type(answer), list)
            self.assertEqual({type(number) for number in answer}, {int})
            self.assertEqual(len(answer), 1 if answer[0] < 0 else 1 + len(inputs))

    def test_what_is_handed_in_stays_the_same(self):
        for text, inputs in self.CALLS:
            handed, told = bytes_of(text), list(inputs)
            answer = run(handed, told)
            self.assertEqual(handed, bytes_of(text))
            self.assertEqual(told, inputs)
            answer.append(7)
            self.assertEqual(handed, bytes_of(text))
            self.assertEqual(told, inputs)

    def test_the_same_call_twice_in_a_row(self):
        for text, inputs in self.CALLS:
            handed, told = bytes_of(text), list(inputs)
            first = run(handed, told)
            self.assertEqual(run(handed, told), first)
            first.append(7)
            self.assertEqual(run(handed, told), first[:-1])

    def test_registers_begin_anew_in_each_call(self):
        text = bytes_of("in a\nout r s\nr = reg a\ns = reg1 a\n")
        for _ in range(3):
            self.assertEqual(run(text, [1, 0, 1]), [0, 2, 3, 0])
            self.assertEqual(run(text, [0, 1]), [0, 2, 0])

    def test_the_arguments_are_called_text_and_inputs(self):
        self.assertEqual(run(text=bytes_of(EXAMPLE), inputs=[7]), [0, 3])


if __name__ == "__main__":
    unittest.main()
