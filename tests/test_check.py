"""Promise 1: check answers 0 of a network, else -1."""
import time
import unittest

from gatenets.networks import check
from tests.helpers import EXAMPLE, KINDS, MOST_BYTES, bytes_of, names, wide_names


class CheckTest(unittest.TestCase):
    def is_network(self, text):
        self.assertEqual(check(bytes_of(text)), [0], repr(text[:80]))

    def is_none(self, text):
        self.assertEqual(check(bytes_of(text)), [-1], repr(text[:80]))


class Ordinary(CheckTest):
    def test_the_documents_example(self):
        self.is_network(EXAMPLE)

    def test_each_kind(self):
        for kind, takes in KINDS.items():
            self.is_network(f"in a b c\nout x\nx = {kind} " + " ".join("abc"[:takes]) + "\n")

    def test_a_kind_may_take_one_name_several_times(self):
        self.is_network("in a\nx = and a a\ny = maj a x a\nz = mux x x x\n")

    def test_a_name_may_depend_on_itself_by_way_of_a_register(self):
        for kind in ("reg", "reg1"):
            self.is_network(f"x = {kind} x\n")
            self.is_network(f"out x\nx = {kind} y\ny = not x\n")
            self.is_network(f"in a\nx = and a y\ny = or z x2\nx2 = buf a\nz = {kind} x\n")
            self.is_network(f"x = {kind} y\ny = {kind} x\n")

    def test_two_ways_to_one_name_are_no_loop(self):
        self.is_network("in a\nb = not a\nc = not b\nd = and b c\ne = and c d\n")

    def test_a_network_needs_neither_inputs_nor_outputs(self):
        self.is_network("x = one\n")
        self.is_network("in a\n")
        self.is_network("out x\nx = zero\n")

    def test_a_name_that_is_given_need_not_be_used(self):
        self.is_network("in a b\nout a\nx = not a\n")


class Lines(CheckTest):
    def test_a_text_without_bytes(self):
        self.is_network("")

    def test_the_last_line_with_and_without_its_line_feed(self):
        for text in (EXAMPLE, "in a\n", "x = one\n", "in a\nout a\n"):
            self.is_network(text)
            self.is_network(text[:-1])
        for text in ("in\n", "out x\n", "x = not\n", "x\n"):
            self.is_none(text)
            self.is_none(text[:-1])

    def test_lines_without_words(self):
        for empty in ("\n", "\n\n\n", " ", "\t", " \t \n\t\n", "#", "# in\n", " \t# x = y\n"):
            self.is_network(empty)
            self.is_network(empty + "\n" + EXAMPLE + empty)

    def test_blanks_between_before_and_behind_words(self):
        for blank in (" ", "\t", "  ", "\t\t", " \t", "\t \t "):
            text = "\n".join(blank + line.replace(" ", blank) + blank for line in EXAMPLE.split("\n"))
            self.is_network(text)
            self.is_network(f"{blank}in{blank}a{blank}\n{blank}x{blank}={blank}not{blank}a{blank}")

    def test_a_line_feed_is_no_blank(self):
        self.is_none("in\na\n")
        self.is_none("in a\nx\n= not a\n")
        self.is_none("in a\nx = not\na\n")
        self.is_none("in a x = not a\n")

    def test_a_remark_at_a_lines_start(self):
        self.is_network("#in a\n# out x\n##\n")
        self.is_none("#in a\nout a\n")

    def test_a_remark_behind_a_word(self):
        self.is_network("in a # b a a = =\nx = not a # a\nout x #")
        self.is_none("in a # b\nx = not b\n")
        self.is_none("in # a\n")
        self.is_none("in a\nx = not # a\n")

    def test_a_remark_within_a_word(self):
        self.is_network("in a#b\nx = not a#a a a\nout x#")
        self.is_network("in a#" + "b" * 40 + "\nout a")
        self.is_none("in a#b\nx = not b\n")
        self.is_none("in#a\n")
        self.is_none("in a\nx = n#ot a\n")

    def test_a_remark_ends_with_its_line(self):
        self.is_network("in a # one\nx = not a # two\ny = not x")
        self.is_none("in a # one\nx = nott a # two\n")

    def test_words_that_do_not_stand_apart(self):
        self.is_network("in a b\nx = and a b\n")
        for line in ("x= and a b", "x =and a b", "x=and a b", "x = anda b", "x = and ab", "x == and a b",
                     "x = = and a b", "= and a b", "x = and a b =", "x and a b", "x a = and b"):
            self.is_none("in a b\n" + line + "\n")
        for text in ("ina\n", "in a\nouta\n", "in a=\n", "in =\n", "in a = b\n", "in a,b\n", "in a\nout a,\n"):
            self.is_none(text)

    def test_lines_of_no_form(self):
        for line in ("x", "x =", "=", "x = x", "a", "a b c", "= = =", "a = a", "in = not a", "out = not a"):
            self.is_none("in a\n" + line + "\n")


class Names(CheckTest):
    def takes_name(self, name):
        self.is_network(f"in {name}\nout {name}\nx = not {name}\n")
        self.is_network(f"out {name}\n{name} = one\nx = buf {name}\n")

    def refuses_name(self, name):
        self.is_none(f"in {name}\n")
        self.is_none(f"{name} = one\n")
        self.is_none(f"in {name}\nout {name}\ny = not {name}\n")
        self.is_none(f"in a\nout {name}\n")
        self.is_none(f"in a\ny = not {name}\n")

    def test_how_long_a_name_may_be(self):
        for length in range(1, 16):
            self.takes_name("n" * length)
            self.takes_name("m" + "_" * (length - 1))
        for length in (16, 17, 300):
            self.refuses_name("n" * length)

    def test_names_alike_in_all_but_the_last_sign(self):
        self.is_network("in abcdefghijklmno abcdefghijklmnp\nout abcdefghijklmno\n")
        self.is_none("in abcdefghijklmno\nout abcdefghijklmnp\n")
        self.is_none("in abcdefghijklmno\nout abcdefghijklmn\n")

    def test_each_sign_that_a_name_may_begin_with(self):
        for byte in range(256):
            sign = chr(byte)
            if sign in "abcdefghijklmnopqrstuvwyz":
                self.takes_name(sign)
                self.takes_name(sign + "0")
            elif sign not in "x\n\t #":
                self.refuses_name(sign)
                self.refuses_name(sign + "a")

    def test_each_sign_that_a_name_may_hold(self):
        for byte in range(256):
            sign = chr(byte)
            if sign in "abcdefghijklmnopqrstuvwxyz0123456789_":
                self.takes_name("a" + sign)
                self.takes_name("a" + sign + "b")
            elif sign not in "\n\t #":
                self.refuses_name("a" + sign)
                self.refuses_name("a" + sign + "b")

    def test_in_and_out_are_no_names(self):
        for word in ("in", "out"):
            self.refuses_name(word)
            self.is_none(f"in a {word}\n")
            self.is_none(f"in a\nout a {word}\n")
            self.is_none(f"in a\nx = and a {word}\n")
            self.is_none(f"{word} = not a\nin a\n")
            for name in (word + "0", word + "_", "a" + word, word + word):
                self.takes_name(name)

    def test_kinds_may_be_names(self):
        for kind in KINDS:
            self.takes_name(kind)
        self.is_network("in not\nand = and not not\nout and\n")


class Limits(CheckTest):
    def test_how_many_names(self):
        self.is_network(wide_names(1023))
        self.is_network(wide_names(1024))
        self.is_none(wide_names(1025))
        self.is_none(wide_names(2000))

    def test_inputs_and_outputs_among_the_names(self):
        gates = "".join(f"g{k} = not n0\n" for k in range(960))
        outputs = "out " + " ".join(f"g{k}" for k in range(64)) + "\n"
        self.is_network("in " + names(64) + "\n" + outputs + gates)
        self.is_none("in " + names(64) + "\n" + outputs + gates + "h = zero\n")

    def test_how_many_inputs(self):
        self.is_network("in " + names(64) + "\n")
        self.is_none("in " + names(65) + "\n")
        one_a_line = "".join(f"in n{k}\n" for k in range(64))
        self.is_network(one_a_line)
        self.is_none(one_a_line + "in last\n")

    def test_how_many_outputs(self):
        for fitting in ("out" + " a" * 64 + "\n", "out a\n" * 64):
            self.is_network("in a\n" + fitting)
            self.is_none("in a\n" + fitting + "out a\n")
        gates = "".join(f"n{k} = one\n" for k in range(65))
        self.is_network(gates + "out " + names(64))
        self.is_none(gates + "out " + names(65))

    def test_several_lines_of_inputs_and_outputs(self):
        self.is_network("in a\nout x\nin b c\nx = maj a b c\nout a b\nin d\nout d\n")

    def test_such_lines_without_a_name(self):
        for word in ("in", "out"):
            for line in (word, word + " ", "\t" + word + "\t", word + " # a"):
                self.is_none(line + "\n")
                self.is_none(EXAMPLE + line)

    def test_an_output_may_stand_twice(self):
        self.is_network("in a\nout x x\nout x\nx = not a\n")

    def test_an_input_may_be_an_output(self):
        self.is_network("in a b\nout b a b\n")

    def test_names_used_ahead_of_the_line_that_gives_them(self):
        self.is_network("out y a\ny = and x a\nx = not a\nin a\n")


class Wrong(CheckTest):
    def test_each_kind_with_a_name_too_few_or_too_many(self):
        for kind, takes in KINDS.items():
            for given in range(7):
                text = f"in a b c\nx = {kind}" + " b" * given + "\n"
                if given == takes:
                    self.is_network(text)
                else:
                    self.is_none(text)

    def test_a_kind_that_there_is_not(self):
        for kind in ("nad", "AND", "And", "id", "reg0", "reg2", "inv", "a", "in", "out", "0", "1", "=", "bu", "muxx",
                     "not\x00", "two"):
            for takes in range(4):
                self.is_none(f"in a\nx = {kind}" + " a" * takes + "\n")

    def test_a_name_that_nothing_gives(self):
        self.is_none("out a\n")
        self.is_none("in a\nout a b\n")
        self.is_none("in a\nout x\n")
        for kind, takes in KINDS.items():
            for place in range(takes):
                sources = ["a"] * takes
                sources[place] = "b"
                self.is_none(f"in a\nx = {kind} " + " ".join(sources) + "\n")

    def test_an_output_line_gives_no_name(self):
        self.is_none("in a\nout b\nx = and a b\n")

    def test_a_name_that_is_an_input_and_a_gate(self):
        self.is_none("in a b\na = not b\n")
        self.is_none("b = one\na = not b\nin a\n")
        self.is_none("in a\na = reg a\n")

    def test_an_input_twice(self):
        self.is_none("in a a\n")
        self.is_none("in a b\nin c a\n")

    def test_a_gate_twice(self):
        self.is_none("x = one\nx = one\n")
        self.is_none("in a\nx = not a\ny = not x\nx = reg a\n")

    def test_a_name_that_depends_on_itself(self):
        for kind, takes in KINDS.items():
            if takes == 0 or kind in ("reg", "reg1"):
                continue
            for place in range(takes):
                sources = ["a"] * takes
                sources[place] = "x"
                self.is_none(f"in a\nx = {kind} " + " ".join(sources) + "\n")

    def test_a_name_that_depends_on_itself_round_a_longer_way(self):
        for length in (2, 3, 10, 100):
            ring = [f"g{k} = and a g{(k + 1) % length}\n" for k in range(length)]
            self.is_none("in a\n" + "".join(ring))
            self.is_none("in a\n" + "".join(reversed(ring)))
            for kind in ("reg", "reg1"):
                opened = ring[:-1] + [f"g{length - 1} = {kind} g0\n"]
                self.is_network("in a\n" + "".join(opened))

    def test_a_loop_beside_one_that_a_register_opens(self):
        self.is_none("in a\nr = reg x\nx = and r y\ny = or x a\n")
        self.is_none("in a\nr = reg r\nx = mux r a y\ny = buf x\n")

    def test_a_loop_that_no_output_needs(self):
        self.is_none("in a\nout a\nx = not y\ny = not x\n")

    def test_bytes_that_are_no_sign_of_any_word(self):
        for byte in [0, 11, 12, 13, 28, 29, 30, 31, 127] + list(range(128, 256)):
            sign = chr(byte)
            for text in (sign, "in a" + sign, "in a " + sign, "in" + sign + "a", sign + "in a", "in a\n" + sign + "\n",
                         "in a\nx = not" + sign + "a", "in a\nx =" + sign + "not a", "in a" + sign + "\nout a",
                         "in a" + sign + "# b"):
                self.is_none(text)

    def test_bytes_behind_a_hash_do_not_matter(self):
        for byte in range(256):
            if byte != 10:
                sign = chr(byte)
                self.is_network("in a #" + sign + "\n#" + sign + "#" + sign * 3 + "\nout a#" + sign)


class Size(CheckTest):
    def answers_soon(self, text, answer):
        self.assertLessEqual(len(text), MOST_BYTES)
        listed = bytes_of(text)
        begun = time.process_time()
        self.assertEqual(check(listed), answer)
        self.assertLess(time.process_time() - begun, 2)

    def filled(self, piece, ahead=""):
        return (ahead + piece * MOST_BYTES)[:MOST_BYTES]

    def test_a_text_of_the_most_bytes(self):
        self.answers_soon(EXAMPLE + "#" * (MOST_BYTES - len(EXAMPLE)), [0])
        for piece in ("\n", " ", "\t", " \n", "#\n", "#"):
            self.answers_soon(self.filled(piece), [0])
            self.answers_soon(self.filled(piece, EXAMPLE), [0])
        for piece in ("a", "a ", "=", "= ", "in ", "\x00", "\xff"):
            self.answers_soon(self.filled(piece), [-1])
        for ahead in ("in ", "out ", "x = and "):
            self.answers_soon(self.filled("a ", ahead), [-1])
        self.answers_soon(self.filled("out a\n", "in a\n"), [-1])
        distinct = "".join(f"g{k} = one\n" for k in range(10000))[:MOST_BYTES]
        self.answers_soon(distinct[:distinct.rindex("\n")], [-1])

    def test_a_longer_text_is_no_network(self):
        self.is_network("\n" * MOST_BYTES)
        self.is_none("\n" * (MOST_BYTES + 1))

    def test_a_network_of_the_most_names(self):
        self.answers_soon(wide_names(1024), [0])
        lines = ["in a\n"]
        for k in range(1023):
            before = "a" if k % 200 == 0 else f"g{k - 1}"
            lines.append(f"g{k} = maj {before} {before} a\n")
        self.answers_soon("".join(lines), [0])
        self.answers_soon("".join(reversed(lines)), [0])

    def test_a_long_chain_of_registers(self):
        lines = [f"g{k} = reg g{(k + 1) % 1024}\n" for k in range(1024)]
        self.answers_soon("".join(lines), [0])

    def test_a_loop_of_the_most_names(self):
        lines = [f"g{k} = maj g{(k + 1) % 1024} g{(k + 1) % 1024} g{(k + 2) % 1024}\n" for k in range(1024)]
        self.answers_soon("".join(lines), [-1])
        self.answers_soon("".join(reversed(lines)), [-1])

    def test_a_short_loop_behind_a_long_chain(self):
        lines = ["in a\n", "g0 = not a\n"] + [f"g{k} = not g{k - 1}\n" for k in range(1, 1021)]
        loop = ["x = and y g1020\n", "y = not x\n"]
        self.answers_soon("".join(lines + loop), [-1])
        self.answers_soon("".join(reversed(lines + loop)), [-1])


class Interface(unittest.TestCase):
    def test_what_is_given_back_is_a_list_of_whole_numbers(self):
        for text in ("", EXAMPLE, "in", "x = not x"):
            answer = check(bytes_of(text))
            self.assertIs(type(answer), list)
            self.assertEqual([type(number) for number in answer], [int])

    def test_what_is_handed_in_stays_the_same(self):
        for text in ("", EXAMPLE, "in a a\n", "x = not x", "\x00\xff#\x80"):
            handed = bytes_of(text)
            check(handed)
            self.assertEqual(handed, bytes_of(text))

    def test_nothing_is_kept_from_one_call_to_the_next(self):
        for _ in range(3):
            self.assertEqual(check(bytes_of(EXAMPLE)), [0])
            self.assertEqual(check(bytes_of("out a\n")), [-1])
            self.assertEqual(check(bytes_of("in a\n")), [0])

    def test_each_answer_is_a_list_of_its_own(self):
        check([]).append(7)
        check(bytes_of("in")).append(7)
        self.assertEqual(check([]), [0])
        self.assertEqual(check(bytes_of("in")), [-1])

    def test_the_argument_is_called_text(self):
        self.assertEqual(check(text=bytes_of(EXAMPLE)), [0])


if __name__ == "__main__":
    unittest.main()
