"""Promise 3: same answers 1, or 0 and the least number that tells two networks apart; -1 of no network; else -2."""
import itertools
import time
import unittest

from gatenets.networks import same
from tests.helpers import EXAMPLE, GIVES, KINDS, MOST_BYTES, NO_NETWORKS, bytes_of, names, wide_names

MOST_COMPARED = 16
WITHOUT_REGISTERS = EXAMPLE.replace("old = reg sum\n", "")
REGISTERS = ("r = reg r\n", "r = reg1 r\n", "out r\nr = reg x\nx = not r\n", "in q\nr = reg q\n", EXAMPLE,
             "in q\nout q\nr = reg1 q\n")


def spots(how_many, numbers):
    """A network of that many inputs with one output, x, that is 1 at those numbers alone."""
    lines = [f"in {names(how_many)}"] if how_many > 0 else []
    lines += [f"m{k} = not n{k}" for k in range(how_many)] + ["out x", "s = zero", "t = one"]
    before = "s"
    for at, number in enumerate(numbers):
        chain = "t"
        for k in range(how_many):
            lines.append(f"c{at}_{k} = and {chain} {'n' if number >> k & 1 else 'm'}{k}")
            chain = f"c{at}_{k}"
        lines.append(f"o{at} = or {before} {chain}")
        before = f"o{at}"
    return "\n".join(lines + [f"x = buf {before}"]) + "\n"


class SameTest(unittest.TestCase):
    def answers(self, a, b, answer):
        given = same(bytes_of(a), bytes_of(b))
        self.assertEqual(given, answer, (a[:200], b[:200]))
        self.assertEqual(same(bytes_of(b), bytes_of(a)), answer, (b[:200], a[:200]))

    def are_same(self, a, b):
        self.answers(a, b, [1])

    def differ(self, a, b, number):
        self.answers(a, b, [0, number])


class Ordinary(SameTest):
    def test_a_network_and_itself(self):
        for text in (WITHOUT_REGISTERS, "in a\nout a\n", "out x\nx = one\n", "in a b\nout x\nx = mux a b a\n"):
            self.are_same(text, text)

    def test_the_documents_example_in_other_words(self):
        other = "in x y z\nout s c\ns = xor x u\nu = xor y z\nc = mux u x y\n"
        self.are_same(WITHOUT_REGISTERS, other)
        self.differ(WITHOUT_REGISTERS, other.replace("mux u x y", "mux u y x"), 1)

    def test_kinds_in_the_words_of_others(self):
        for one, other in (
                ("x = nand a b", "x = not y\ny = and a b"),
                ("x = nor a b", "x = not y\ny = or a b"),
                ("x = xnor a b", "x = not y\ny = xor a b"),
                ("x = xor a b", "x = or y z\ny = and a m\nm = not b\nz = and n b\nn = not a"),
                ("x = xor a b", "x = and y z\ny = or a b\nz = nand a b"),
                ("x = or a b", "x = nand y z\ny = not a\nz = not b"),
                ("x = maj a b c", "x = or t w\nt = or u v\nu = and a b\nv = and a c\nw = and b c"),
                ("x = mux a b c", "x = or u v\nu = and a b\nv = and n c\nn = not a"),
                ("x = mux a b c", "x = xor c v\nv = and a u\nu = xor b c"),
                ("x = buf a", "x = not y\ny = not a"),
                ("x = buf a", "x = and a a"),
                ("x = zero", "x = xor a a"),
                ("x = one", "x = or a y\ny = not a"),
                ("x = zero", "x = not y\ny = one"),
                ("x = and a b", "x = maj a b z\nz = zero"),
                ("x = or a b", "x = maj z a b\nz = one")):
            self.are_same("in a b c\nout x\n" + one, "in a b c\nout x\n" + other)

    def test_other_names(self):
        self.are_same("in a b\nout x y\nx = and a b\ny = not x\n", "in p x\nout a y7\na = and p x\ny7 = not a\n")

    def test_another_order_of_the_lines(self):
        lines = ["in a b\n", "out x y\n", "x = xor y z\n", "y = nand a b\n", "z = and b w\n", "w = not a\n"]
        for ordered in itertools.permutations(lines):
            self.are_same("".join(lines), "".join(ordered))

    def test_each_kind_against_each_other_kind(self):
        gates = {kind: takes for kind, takes in KINDS.items() if kind in GIVES}
        for (kind, takes), (other, taken) in itertools.product(gates.items(), repeat=2):
            inputs = max(takes, taken)
            ahead = f"in {names(inputs)}\nout x\nx = " if inputs else "out x\nx = "
            apart = []
            for number in range(2 ** inputs):
                bits = [number >> k & 1 == 1 for k in range(inputs)]
                if GIVES[kind](*bits[:takes]) != GIVES[other](*bits[:taken]):
                    apart.append(number)
            answer = [0, apart[0]] if apart else [1]
            self.assertEqual(answer == [1], kind == other)
            self.answers(ahead + kind + " " + names(takes), ahead + other + " " + names(taken), answer)

    def test_the_order_of_a_kinds_names(self):
        texts = {order: "in a b c\nout x\nx = mux " + " ".join(order) for order in itertools.permutations("abc")}
        for one, other in itertools.product(texts, repeat=2):
            apart = []
            for number in range(8):
                bits = {name: number >> k & 1 for k, name in enumerate("abc")}
                given = [bits[order[1]] if bits[order[0]] else bits[order[2]] for order in (one, other)]
                if given[0] != given[1]:
                    apart.append(number)
            self.answers(texts[one], texts[other], [0, apart[0]] if apart else [1])


class Differences(SameTest):
    def test_at_one_number_alone(self):
        for inputs in range(7):
            for number in range(2 ** inputs):
                self.differ(spots(inputs, []), spots(inputs, [number]), number)
                self.are_same(spots(inputs, [number]), spots(inputs, [number]))

    def test_at_one_number_alone_of_many(self):
        # The powers of two and their neighbours: where numbers are gone through in groups, these are the edges.
        for inputs in (10, 11, 12, 13, 15, 16):
            edges = {0, 2 ** inputs - 1, 2 ** inputs - 2, 2 ** inputs * 2 // 3}
            for k in range(inputs):
                edges |= {2 ** k - 1, 2 ** k, 2 ** k + 1}
            for number in sorted(edges & set(range(2 ** inputs))):
                self.differ(spots(inputs, []), spots(inputs, [number]), number)

    def test_at_several_numbers(self):
        for numbers in ([3, 5], [5, 3], [7, 0], [0, 7], [6, 2, 4], [7, 6, 5, 4, 3, 2, 1]):
            self.differ(spots(3, []), spots(3, numbers), min(numbers))
        for numbers in ([65535, 2048], [40000, 30000, 50000], [2047, 2048], [1023, 1024], [4097, 65535, 4096]):
            self.differ(spots(16, []), spots(16, numbers), min(numbers))

    def test_at_numbers_at_which_now_one_has_a_1_and_now_the_other(self):
        self.differ(spots(4, [3, 9]), spots(4, [3, 8]), 8)
        self.differ(spots(4, [3, 9]), spots(4, [4, 9]), 3)
        self.differ(spots(16, [3, 9000]), spots(16, [3, 60000]), 9000)
        self.differ(spots(16, [3, 60000]), spots(16, [3, 60001]), 60000)

    def test_at_all_numbers(self):
        for inputs in (0, 1, 5, 16):
            ahead = f"in {names(inputs)}\nout x\nx = " if inputs else "out x\nx = "
            self.differ(ahead + "zero\n", ahead + "one\n", 0)

    def test_in_the_first_output_alone(self):
        self.differ("in a b\nout x a b\nx = and a b\n", "in a b\nout x a b\nx = zero\n", 3)
        self.differ("in a b\nout x a b\nx = or a b\n", "in a b\nout x a b\nx = one\n", 0)

    def test_in_the_last_output_alone(self):
        self.differ("in a b\nout a b x\nx = and a b\n", "in a b\nout a b x\nx = zero\n", 3)
        self.differ("in a b\nout a b x\nx = xor a b\n", "in a b\nout a b x\nx = buf b\n", 1)

    def test_in_several_outputs_each_at_a_number_of_its_own(self):
        gates = "m = not a\nn = not b\n"
        one = "in a b\nout x y z\nx = and a b\ny = and m b\nz = and a n\n" + gates
        zeros = ["x = zero\n", "y = zero\n", "z = zero\n"]
        for order in itertools.permutations("xyz"):
            ordered = one.replace("out x y z", "out " + " ".join(order))
            self.differ(ordered, "in a b\nout " + " ".join(order) + "\n" + "".join(zeros), 1)
        self.differ(one.replace("z = and a n\n", "z = zero\n"), "in a b\nout x y z\n" + "".join(zeros), 2)

    def test_outputs_in_another_order(self):
        self.differ("in a b\nout a b\n", "in a b\nout b a\n", 1)
        self.differ("in a b\nout b a b\n", "in a b\nout b b a\n", 1)
        # Bit by bit, not how many are 1.
        self.differ("in a\nout x y\nx = one\ny = zero\n", "in a\nout x y\nx = zero\ny = one\n", 0)

    def test_gates_that_no_output_needs_do_not_matter(self):
        self.are_same("in a\nout a\nx = not a\ny = xor x a\n", "in a\nout a\n")
        self.are_same("in a\nout a\nx = not a\n", "in a\nout a\nx = buf a\n")


class Edges(SameTest):
    def test_no_inputs(self):
        self.are_same("out x\nx = one\n", "out y\ny = not z\nz = zero\n")
        self.differ("out x\nx = one\n", "out x\nx = zero\n", 0)
        self.differ("out x y\nx = one\ny = one\n", "out x y\nx = one\ny = not x\n", 0)

    def test_no_outputs(self):
        self.are_same("in a\nx = not a\n", "in b\n")
        self.are_same("in " + names(16), "in " + names(16) + "\nx = maj n1 n2 n3\n")
        self.are_same("x = one\n", "x = zero\n")

    def test_texts_without_bytes(self):
        self.are_same("", "")
        self.are_same("", "# nothing\n\n")
        self.are_same("", "x = one\n")

    def test_each_number_of_inputs(self):
        for inputs in range(1, MOST_COMPARED + 1):
            ahead = f"in {names(inputs)}\nout x\nx = "
            last = f"n{inputs - 1}"
            self.are_same(ahead + f"buf {last}\n", ahead + f"and {last} {last}\n")
            self.differ(ahead + f"buf {last}\n", ahead + "zero\n", 2 ** (inputs - 1))

    def test_each_input_is_the_bit_that_its_place_tells(self):
        for k in range(MOST_COMPARED):
            self.differ(f"in {names(16)}\nout n{k}\n", f"in {names(16)}\nout x\nx = zero\n", 2 ** k)

    def test_16_inputs(self):
        self.are_same(spots(16, [0, 65535]), spots(16, [65535, 0]))
        self.differ(spots(16, []), spots(16, [0]), 0)
        self.differ(spots(16, []), spots(16, [65535]), 65535)
        self.differ(spots(16, [65535]), spots(16, [0]), 0)

    def test_17_inputs(self):
        self.answers(spots(17, []), spots(17, []), [-2])
        self.answers("in " + names(17), "in " + names(17), [-2])

    def test_inputs_of_other_names_in_the_same_places(self):
        self.are_same("in a b c\nout x\nx = mux a b c\n", "in c a b\nout x\nx = mux c a b\n")
        self.are_same("in a b\nout a\n", "in b a\nout b\n")

    def test_inputs_of_the_same_names_in_other_places(self):
        self.differ("in a b\nout a\n", "in b a\nout a\n", 1)
        self.differ("in a b c\nout x\nx = mux a b c\n", "in c a b\nout x\nx = mux a b c\n", 1)
        self.are_same("in a b c\nout x\nx = maj a b c\n", "in c a b\nout x\nx = maj a b c\n")

    def test_inputs_and_outputs_in_several_lines(self):
        self.are_same("in a\nout x\nin b\nx = and a b\nout a\n", "in a b\nout x a\nx = and a b\n")
        self.differ("in a\nout x\nin b\nx = and a b\nout a\n", "in b\nout x a\nin a\nx = and a b\n", 1)

    def test_two_outputs_of_the_same_name(self):
        self.are_same("in a\nout x x\nx = not a\n", "in a\nout x y\nx = not a\ny = not a\n")
        self.differ("in a b\nout a a\n", "in a b\nout a b\n", 1)

    def test_an_input_that_is_an_output(self):
        self.are_same("in a b\nout b a\n", "in a b\nout x y\nx = buf b\ny = buf a\n")
        self.differ("in a b\nout b\n", "in a b\nout x\nx = or a b\n", 1)

    def test_inputs_that_no_gate_takes(self):
        self.are_same("in a b c\nout x\nx = not b\n", "in d e f\nout x\nx = nand e e\n")
        self.differ("in a b c\nout x\nx = not b\n", "in d e f\nout x\nx = not d\n", 1)
        self.are_same(f"in {names(16)}\nout x\nx = one\n", f"in {names(16)}\nout x\nx = xnor n3 n3\n")

    def test_64_outputs_that_differ_in_one(self):
        one = ["x"] * 64
        ahead = "in a b\nx = or a b\ny = xor a b\n"
        for place in (0, 1, 31, 32, 62, 63):
            other = list(one)
            other[place] = "y"
            self.differ(ahead + "out " + " ".join(one), ahead + "out " + " ".join(other), 3)
        self.are_same(ahead + "out " + " ".join(one), ahead + "out " + " ".join(one))


class Refusals(SameTest):
    def test_one_is_no_network(self):
        for text in NO_NETWORKS:
            for other in ("", WITHOUT_REGISTERS, "in a b\nout a\n", "in " + names(17)) + REGISTERS:
                self.answers(text, other, [-1])

    def test_both_are_none(self):
        for one, other in itertools.product(NO_NETWORKS[:-3], NO_NETWORKS):
            self.answers(one, other, [-1])

    def test_a_register(self):
        for text in REGISTERS:
            for other in ("", WITHOUT_REGISTERS, "in a\n", "in a\nout a\n", "out x\nx = zero\n") + REGISTERS:
                self.answers(text, other, [-2])

    def test_a_register_that_nothing_takes(self):
        for kind in ("reg", "reg1"):
            text = f"in a\nout a\nr = {kind} a\n"
            self.answers(text, "in a\nout a\n", [-2])
            self.answers(text, text, [-2])

    def test_other_numbers_of_inputs(self):
        self.answers("in a\nout a\n", "in a b\nout a\n", [-2])
        self.answers("out x\nx = one\n", "in a\nout x\nx = one\n", [-2])
        self.answers("", "in a\n", [-2])
        self.answers("in " + names(16), "in " + names(17), [-2])

    def test_other_numbers_of_outputs(self):
        self.answers("in a\nout a\n", "in a\nout a a\n", [-2])
        self.answers("in a\nout a\n", "in a\n", [-2])
        self.answers("", "out x\nx = one\n", [-2])
        self.answers("in a\nout x x\nx = one\n", "in a\nout y\ny = zero\n", [-2])

    def test_more_than_16_inputs(self):
        for inputs in (17, 18, 32, 63, 64):
            ahead = f"in {names(inputs)}\nout x\nx = "
            self.answers(ahead + "one\n", ahead + "one\n", [-2])
            self.answers(ahead + "one\n", ahead + "zero\n", [-2])
            self.answers(f"in {names(inputs)}\n", f"in {names(inputs)}\n", [-2])


class Size(SameTest):
    def answers_soon(self, a, b, answer):
        self.assertLessEqual(max(len(a), len(b)), MOST_BYTES)
        listed, other = bytes_of(a), bytes_of(b)
        begun = time.process_time()
        self.assertEqual(same(listed, other), answer)
        self.assertLess(time.process_time() - begun, 5)

    def large(self, last="maj"):
        """1024 names: 16 inputs and 1008 gates, of which the last 64 are the outputs."""
        lines = [f"in {names(16)}\n"]
        for k in range(1008):
            before = f"n{k % 16}" if k % 190 == 0 else f"g{k - 1}"
            kind = last if k == 1007 else ("mux", "maj")[k % 2]
            lines.append(f"g{k} = {kind} {before} n{k % 16} n{(7 * k + 3) % 16}\n")
        return lines + ["out " + " ".join(f"g{k}" for k in range(1008 - 64, 1008)) + "\n"]

    def test_texts_of_the_most_bytes(self):
        for filling in ("#", "\n", " ", "\t\n"):
            text = (WITHOUT_REGISTERS + filling * MOST_BYTES)[:MOST_BYTES]
            self.answers_soon(text, text, [1])
            self.answers_soon(text, WITHOUT_REGISTERS, [1])
        self.answers_soon("a " * (MOST_BYTES // 2), "a " * (MOST_BYTES // 2), [-1])
        self.answers_soon("#" * MOST_BYTES, "\n" * MOST_BYTES, [1])

    def test_networks_of_the_most_names_that_are_the_same(self):
        lines = self.large()
        self.answers_soon("".join(lines), "".join(lines[:1] + lines[:0:-1]), [1])

    def test_large_networks_in_texts_of_the_most_bytes(self):
        text = "".join(self.large())
        self.answers_soon(text + "#" * (MOST_BYTES - len(text)), "\n" * (MOST_BYTES - len(text)) + text, [1])

    def test_networks_of_the_most_names_that_differ(self):
        one, other = self.large(), self.large("mux")
        # The last gate takes one before, n15 and n12: with both 0 each kind gives 0, with n12 alone they always differ.
        self.answers_soon("".join(one), "".join(other), [0, 2 ** 12])

    def test_networks_of_the_most_names_without_many_inputs(self):
        text = wide_names(1024) + "out " + " ".join(f"g{k}" for k in range(959, 1023))
        self.answers_soon(text, text, [1])
        self.answers_soon(text, text.replace("g1022 = not", "g1022 = buf"), [0, 0])

    def test_a_chain_of_200_gates(self):
        ahead = [f"in {names(16)}\n", "g0 = not n15\n"]
        chain = ahead + [f"g{k} = not g{k - 1}\n" for k in range(1, 200)]
        self.answers_soon("".join(chain + ["out g199\n"]), f"in {names(16)}\nout n15\n", [1])
        self.answers_soon("".join((chain + ["out g199\n"])[::-1]), f"in {names(16)}\nout n15\n", [1])
        self.answers_soon("".join(chain + ["out g199\n"]), "".join(chain + ["out g198\n"]), [0, 0])
        parity = ["g0 = xor n0 n1\n"] + [f"g{k} = xor g{k - 1} n{(k + 1) % 16}\n" for k in range(1, 200)]
        taken = [0, 1] + [(k + 1) % 16 for k in range(1, 200)]
        odd = [k for k in range(16) if taken.count(k) % 2 == 1]
        short = [f"h0 = buf n{odd[0]}\n"] + [f"h{k} = xor h{k - 1} n{odd[k]}\n" for k in range(1, len(odd))]
        self.answers_soon("".join(ahead[:1] + parity + ["out g199\n"]),
                          "".join(ahead[:1] + short + [f"out h{len(odd) - 1}\n"]), [1])


class Interface(unittest.TestCase):
    CALLS = (
        ("", ""), (WITHOUT_REGISTERS, WITHOUT_REGISTERS), (EXAMPLE, WITHOUT_REGISTERS), ("in", ""), ("", "in"),
        ("in a\nout a\n", "in b\nout x\nx = not b\n"), ("out x\nx = one\n", "out x\nx = zero\n"),
        ("in a b\nout x\nx = and a b\n", "in a b\nout x\nx = zero\n"), ("in a\n", ""), ("\xff\x00", "\x80#"),
        (f"in {names(16)}\nout n15\n", f"in {names(16)}\nout n14\n"),
    )

    def test_what_is_given_back_is_a_list_of_whole_numbers(self):
        for a, b in self.CALLS:
            answer = same(bytes_of(a), bytes_of(b))
            self.assertIs(type(answer), list)
            self.assertEqual({type(number) for number in answer}, {int})
            self.assertIn(answer[0], (-2, -1, 0, 1))
            self.assertEqual(len(answer), 2 if answer[0] == 0 else 1)

    def test_what_is_handed_in_stays_the_same(self):
        for a, b in self.CALLS:
            handed, other = bytes_of(a), bytes_of(b)
            same(handed, other).append(7)
            self.assertEqual((handed, other), (bytes_of(a), bytes_of(b)))

    def test_the_same_list_as_both(self):
        for text in (WITHOUT_REGISTERS, "", EXAMPLE, "in", f"in {names(16)}\nout n3\n", "in " + names(17)):
            handed = bytes_of(text)
            self.assertEqual(same(handed, handed), same(bytes_of(text), bytes_of(text)))
            self.assertEqual(handed, bytes_of(text))

    def test_the_same_call_twice_in_a_row(self):
        for a, b in self.CALLS:
            handed, other = bytes_of(a), bytes_of(b)
            first = same(handed, other)
            self.assertEqual(same(handed, other), first)
            first.append(7)
            self.assertEqual(same(handed, other), first[:-1])

    def test_the_arguments_are_called_a_and_b(self):
        text = bytes_of(WITHOUT_REGISTERS)
        self.assertEqual(same(a=text, b=text), [1])
        self.assertEqual(same(b=text, a=bytes_of("in")), [-1])


if __name__ == "__main__":
    unittest.main()
