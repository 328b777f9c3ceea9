"""What the document promises over the whole program: its four functions side by side."""
import inspect
import itertools
import unittest

from gatenets import networks
from tests.helpers import EXAMPLE, NO_NETWORKS, bytes_of, names

ARGUMENTS = {"check": ["text"], "run": ["text", "inputs"], "same": ["a", "b"], "depth": ["text"]}
TEXTS = ("", EXAMPLE, "in a\nout x\nx = not a\n", "in a b\nout a b\n", "r = reg1 r\nout r\n", "in " + names(17))


def calls(text):
    return [lambda: networks.check(text), lambda: networks.run(text, [0, 1, 2]), lambda: networks.same(text, text),
            lambda: networks.depth(text)]


class Whole(unittest.TestCase):
    def test_the_functions_and_their_arguments(self):
        for name, arguments in ARGUMENTS.items():
            function = getattr(networks, name)
            self.assertEqual(function.__module__, "gatenets.networks")
            told = inspect.signature(function).parameters
            self.assertEqual(list(told), arguments)
            self.assertEqual({argument.default for argument in told.values()}, {inspect.Parameter.empty})

    def test_all_refuse_what_is_no_network(self):
        for text in NO_NETWORKS:
            for call in calls(bytes_of(text)):
                self.assertEqual(call(), [-1], text[:80])

    def test_none_refuses_a_network_as_none(self):
        for text in TEXTS:
            for call in calls(bytes_of(text)):
                self.assertNotEqual(call(), [-1], text)

    def test_no_call_leaves_anything_to_another(self):
        texts = [bytes_of(text) for text in TEXTS + NO_NETWORKS[:5]]
        alone = [[call() for call in calls(text)] for text in texts]
        for order in itertools.permutations(range(4)):
            for text, answers in zip(texts, alone):
                for which in order:
                    self.assertEqual(calls(text)[which](), answers[which])

    def test_a_network_that_is_the_same_as_another_runs_like_it(self):
        one = bytes_of("in a b c\nout s k\nt = xor a b\ns = xor t c\nk = maj a b c\n")
        other = bytes_of("in x y z\nout s c\ns = xor x u\nu = xor y z\nc = mux u x y\n")
        numbers = list(range(8))
        self.assertEqual(networks.same(one, other), [1])
        self.assertEqual(networks.run(one, numbers), networks.run(other, numbers))
        third = bytes_of("in x y z\nout s c\ns = xor x u\nu = xor y z\nc = and x y\n")
        given = [networks.run(text, numbers)[1:] for text in (one, third)]
        least = min(number for number in numbers if given[0][number] != given[1][number])
        self.assertEqual(networks.same(one, third), [0, least])


if __name__ == "__main__":
    unittest.main()
