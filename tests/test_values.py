"""[2]: nothing that is passed is changed, all that is told is made of tuples, and told equally again."""

import copy
import random
import unittest

from newsbehind import beats, lateness, nets, nettexts, reading, rules, tokens
from newsbehind.nettexts import net_text
from sampling import drawn_lateness, drawn_net, drawn_run

INTERFACE = {
    rules: "is_rule branches told",
    nets: "is_net is_state net_of wanted heard_in next_state is_rest with_rule fixed renamed_net renamed_state hearers "
          "reached knots",
    tokens: "tokens_of token_places",
    nettexts: "net_tokens net_text",
    reading: "read_net may_follow completed",
    lateness: "is_past is_lateness can_follow is_run",
    beats: "shows_next shown past_behind led_on",
}
ARGUMENTS = {
    "is_rule": "value", "branches": "rule", "told": "rule heard", "is_net": "value", "is_state": "net value",
    "net_of": "tops rules", "wanted": "net house heard", "heard_in": "net house state", "next_state": "net state",
    "is_rest": "net state", "with_rule": "net house rule", "fixed": "net house worth", "renamed_net": "net names",
    "renamed_state": "state names", "hearers": "net house", "reached": "net house", "knots": "net", "tokens_of": "text",
    "token_places": "text", "net_tokens": "net", "net_text": "net", "read_net": "text", "may_follow": "text",
    "completed": "text", "is_past": "net d value", "is_lateness": "net d value", "can_follow": "lateness later",
    "is_run": "net d value", "shows_next": "net past lateness", "shown": "net d run", "past_behind": "net d run",
    "led_on": "net d run latenesses",
}


def arguments(rng):
    """For each name of an argument something to pass; the values are passed where any value may be."""
    net = drawn_net(rng, houses=3, many=rng.choice((2, 9)), most_top=9)
    d = rng.choice((2, 3, 9))
    run = drawn_run(rng, net, d, 4)
    house = rng.randrange(3)
    values = [net[1][0], net, run, run[0], run[1][0], run[0][0], [1, [2]], {"is": [0]}, [net, [run]], None]
    return {
        "net": net, "house": house, "state": run[0][0], "rule": net[1][house], "d": d, "run": run, "past": run[0],
        "lateness": run[1][0], "later": run[1][1], "latenesses": (drawn_lateness(rng, net, d, run[1][-1]),),
        "heard": (1,) * len(rules.branches(net[1][house])), "worth": 0, "names": tuple(rng.sample(range(3), 3)), "tops": list(net[0]),
        "rules": list(net[1]), "text": net_text(net), "value": rng.choice(values),
    }


def is_of_tuples(value):
    """Whether a value is made of nothing but plain tuples, integers, strings, truth values and None."""
    if type(value) is tuple:
        return all(is_of_tuples(entry) for entry in value)
    return value is None or type(value) in (int, str, bool)


class ValuesTest(unittest.TestCase):
    def functions(self):
        for module, names in INTERFACE.items():
            for name in names.split():
                yield module, getattr(module, name)

    def test_names_and_arguments(self):
        for module, function in self.functions():
            code = function.__code__
            self.assertEqual(function.__module__, module.__name__)
            self.assertEqual(code.co_varnames[:code.co_argcount], tuple(ARGUMENTS[function.__name__].split()))

    def test_nothing_is_changed_and_all_is_of_tuples(self):
        rng = random.Random(31)
        for _ in range(40):
            passed = arguments(rng)
            for _, function in self.functions():
                given = {name: passed[name] for name in ARGUMENTS[function.__name__].split()}
                before = copy.deepcopy(given)
                told = function(**given)
                self.assertEqual(given, before)
                self.assertIs(is_of_tuples(told), True, (function.__name__, told))
                self.assertEqual(function(**before), told)
                self.assertIs(type(function(*given.values())), type(told))

    def test_whether_is_answered_by_true_or_false(self):
        rng = random.Random(32)
        for _ in range(20):
            passed = arguments(rng)
            for _, function in self.functions():
                if function.__name__.startswith(("is_", "can_")):
                    told = function(**{name: passed[name] for name in ARGUMENTS[function.__name__].split()})
                    self.assertIn(repr(told), ("True", "False"))


if __name__ == "__main__":
    unittest.main()
