"""[71]: circuits, and which gates are known."""

import random
import unittest

from newsbehind.beats import shown
from newsbehind.circuitnets import circuit_net, is_circuit, known_gates
from newsbehind.nets import is_net, net_of
from newsbehind.resting import resting_houses
from newsbehind.toggles import toggle_run
from newsbehind.ends import last_ends
from newsbehind.ways import are_one_way
from sampling import ODD_VALUES, drawn_run


def slow_known(gates):
    """By going on as long as possible."""
    known = [None] * len(gates)
    while True:
        before = list(known)
        for at, (word, heard) in enumerate(gates):
            if word == "in":
                known[at] = heard
            elif word == "not":
                known[at] = None if known[heard] is None else 1 - known[heard]
            else:
                decides = 0 if word == "and" else 1
                worths = [known[other] for other in heard]
                if decides in worths:
                    known[at] = decides
                elif None not in worths:
                    known[at] = 1 - decides
        if known == before:
            return tuple(known)


def drawn_gates(rng, many, ins=0.2):
    gates = []
    for _ in range(many):
        word = "in" if rng.random() < ins else rng.choice(("not", "and", "or"))
        if word == "in":
            gates.append((word, rng.randrange(2)))
        elif word == "not":
            gates.append((word, rng.randrange(many)))
        else:
            gates.append((word, tuple(rng.randrange(many) for _ in range(rng.choice((1, 2, 2, 3, 12))))))
    return tuple(gates)


class IsCircuitTest(unittest.TestCase):
    def told(self, is_one, value):
        self.assertIs(is_circuit(value), is_one, value)

    def test_each_gate(self):
        for gate in (("in", 0), ("in", 1), ("not", 0), ("and", (0,)), ("or", (0,)), ("and", (0, 0)), ("or", (0,) * 12),
                     ("and", (0,) * 12)):
            self.told(True, (gate,))
        for gate in (("in", 2), ("in", -1), ("in", True), ("in", False), ("in", None), ("in", (0,)), ("in",), ("in", 0, 0),
                     ["in", 0],
                     ("not", 1), ("not", -1), ("not", True), ("not", False), ("not", (0,)), ("not",), ("not", 0, 0),
                     ("not", None),
                     ("and", ()), ("or", ()), ("and", (0,) * 13), ("or", (0,) * 13), ("and", 0), ("or", 0), ("and", [0]),
                     ("or", [0]),
                     ("and", (1,)), ("or", (0, 1)), ("and", (-1,)), ("or", (True,)), ("and", (False,)), ("or", (None,)),
                     ("and", ((0,),)),
                     ("xor", (0,)), ("In", 0), ("is", 0), ("", 0), (b"in", 0), (0, "in"), ("and", (0,), (0,)), "in",
                     ("in0",), ("and", "0")):
            self.told(False, (gate,))
        for value in ODD_VALUES:
            self.told(False, value)
            self.told(False, (value,))
            self.told(False, (("in", 0), value))
            self.told(repr(value) in ("0", "1"), (("in", value),))
            self.told(repr(value) == "0", (("and", (0, value)),))

    def test_how_many(self):
        self.told(False, ())
        for many in 1, 19, 20:
            self.told(True, (("in", 0),) * many)
            self.told(True, (("not", many - 1),) * many)
            self.told(False, (("not", many),) * many)
        for many in 21, 100:
            self.told(False, (("in", 0),) * many)
        self.told(False, [("in", 0)])

    def test_inputs_that_are_gates_yet_to_come(self):
        self.told(True, (("and", (1, 2)), ("not", 2), ("or", (0, 0, 1))))
        self.told(False, (("and", (1, 3)), ("not", 2), ("or", (0, 0, 1))))

    def test_drawn_gates(self):
        rng = random.Random(711)
        for _ in range(60):
            self.told(True, drawn_gates(rng, rng.choice((1, 2, 5, 20))))


class CircuitNetTest(unittest.TestCase):
    def test_by_hand(self):
        gates = (("in", 0), ("in", 1), ("not", 3), ("and", (0, 2, 2)), ("or", (1,)))
        self.assertEqual(circuit_net(gates), net_of([1] * 5, [
            ("is", 0), ("is", 1), ("from", 1, ("hear", 3)), ("least", (("hear", 0), ("hear", 2), ("hear", 2))),
            ("most", (("hear", 1),))]))

    def test_no_branch_goes_both_ways(self):
        rng = random.Random(712)
        for _ in range(60):
            net = circuit_net(drawn_gates(rng, rng.choice((1, 3, 20))))
            self.assertIs(is_net(net), True)
            self.assertIs(are_one_way(net), True)


class KnownGatesTest(unittest.TestCase):
    def test_by_hand(self):
        self.assertEqual(known_gates((("in", 0), ("and", (0, 2)), ("not", 2))), (0, 0, None))
        self.assertEqual(known_gates((("in", 1), ("or", (0, 2)), ("not", 2), ("not", 1), ("and", (0, 1)))),
                         (1, 1, None, 0, 1))
        self.assertEqual(known_gates((("in", 1), ("and", (0, 2)), ("in", 0), ("or", (2, 1)))), (1, 0, 0, 0))

    def test_rings(self):
        for gate in (("not", 0), ("and", (0,)), ("or", (0, 0))):
            self.assertEqual(known_gates((gate,)), (None,))
        self.assertEqual(known_gates((("not", 1), ("not", 0))), (None, None))
        self.assertEqual(known_gates((("and", (1, 2)), ("or", (0, 2)), ("in", 0))), (0, 0, 0))
        self.assertEqual(known_gates((("and", (1, 2)), ("or", (0, 2)), ("in", 1))), (1, 1, 1))
        self.assertEqual(known_gates((("and", (1, 2)), ("or", (0, 3)), ("in", 1), ("in", 0))), (None, None, 1, 0))

    def test_drawn_gates(self):
        rng = random.Random(713)
        seen = {}
        for _ in range(200):
            gates = drawn_gates(rng, rng.choice((1, 2, 5, 9, 20)))
            told = known_gates(gates)
            self.assertEqual(told, slow_known(gates))
            self.assertEqual(resting_houses(circuit_net(gates)),
                             tuple(at for at, worth in enumerate(told) if worth is not None))
            for worth in told:
                seen[worth] = seen.get(worth, 0) + 1
        self.assertGreater(min(seen[0], seen[1], seen[None]), 50)

    def test_known_gates_come_to_rest_and_others_do_not(self):
        rng = random.Random(714)
        for _ in range(40):
            gates = drawn_gates(rng, 6)
            net, told = circuit_net(gates), known_gates(gates)
            last = shown(net, 3, drawn_run(rng, net, 3, 30))[-1]
            for at, worth in enumerate(told):
                self.assertIn(worth, (None, last[at]))
            lows, highs = last_ends(net)
            states = shown(net, 2, toggle_run(net, 2, (lows, highs), 6))
            for at, worth in enumerate(told):
                self.assertEqual(len({state[at] for state in states}), 2 if worth is None else 1)


if __name__ == "__main__":
    unittest.main()
