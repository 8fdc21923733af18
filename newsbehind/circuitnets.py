"""Circuits: nets of gates, and which of them come to rest whatever the delays of the wires."""

from newsbehind.basics import MOST_BRANCHES, MOST_HOUSES, are_integers_in, is_integer_in
from newsbehind.ends import last_ends


def _is_gate(value, many):
    """Whether any value is a gate of a circuit of so many."""
    if not isinstance(value, tuple) or len(value) != 2 or not isinstance(value[0], str):
        return False
    word, heard = value
    if word == "in":
        return is_integer_in(heard, 0, 1)
    if word == "not":
        return is_integer_in(heard, 0, many - 1)
    if word not in ("and", "or") or not isinstance(heard, tuple):
        return False
    return 1 <= len(heard) <= MOST_BRANCHES and are_integers_in(heard, 0, many - 1)


def is_circuit(value):
    """Whether any value is the gates of a circuit."""
    if not isinstance(value, tuple) or not 1 <= len(value) <= MOST_HOUSES:
        return False
    return all(_is_gate(entry, len(value)) for entry in value)


def _gate_rule(gate):
    word, heard = gate
    if word == "in":
        return "is", heard
    if word == "not":
        return "from", 1, ("hear", heard)
    return "least" if word == "and" else "most", tuple([("hear", other) for other in heard])


def circuit_net(gates):
    """The net whose houses are the gates of a circuit."""
    return (1,) * len(gates), tuple([_gate_rule(gate) for gate in gates])


def known_gates(gates):
    """For each gate the worth to which it comes whatever the delays, None if it does not."""
    lows, highs = last_ends(circuit_net(gates))
    return tuple([low if low == high else None for low, high in zip(lows, highs)])
