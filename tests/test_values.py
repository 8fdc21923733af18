"""[2]: nothing that is passed is changed, all that is told is made of tuples, and told equally again."""

import copy
import random
import unittest

from newsbehind import (
    beats, circuitnets, cutting, distancenets, ends, endtables, exactways, fastbeats, forcing, knotrounds, lateness, lives, living,
    livingchanges, looseruns, losses, lotpapers, lots, mending, nets, nettexts, openparts, orbits, plainruns, pricenets, pricing,
    ranges, ratios, reading, resting, restpapers, rests, rules, settings, shares, sheets, showing, stirs, stops, sureworths,
    tablenets, tablerests, tableruns, together, toggles, tokens, traps, votenets, ways,
)
from newsbehind.errors import InvalidQuestion, Refused
from newsbehind.nettexts import net_text
from sampling import (
    drawn_ends, drawn_lateness, drawn_lossy, drawn_net, drawn_run, drawn_stopped_run, one_way, small_net,
)
from tables import drawn_table_net, drawn_table_run

INTERFACE = {
    rules: "is_rule branches told",
    nets: "is_net is_state net_of wanted heard_in next_state is_rest with_rule fixed renamed_net renamed_state hearers "
          "reached knots",
    tokens: "tokens_of token_places",
    nettexts: "net_tokens net_text",
    reading: "read_net may_follow completed",
    lateness: "is_past is_lateness can_follow is_run",
    beats: "shows_next shown past_behind led_on",
    showing: "even_run can_show",
    ranges: "range_of house_range",
    ways: "ways are_one_way end_heard",
    exactways: "exact_ways shown_ways",
    ends: "first_ends next_ends ends_behind last_ends rounds_needed",
    resting: "rests_always the_rest resting_houses ends_at settled_from",
    restpapers: "rest_paper is_rest_paper",
    toggles: "toggle_ends is_toggle toggle_run",
    lots: "first_lots lots_next lot_rounds last_lots known_rounds is_sure",
    looseruns: "is_loose_run loose_states",
    lotpapers: "lot_paper is_lot_paper restless_run",
    ratios: "fraction is_fraction",
    tablenets: "is_table_net table_net_of table_branches table_wanted",
    pricing: "price_sums are_prices are_swinging priced pivots",
    tablerests: "some_rest has_one_rest share farthest",
    tableruns: "is_table_run table_states swing_run",
    shares: "priced_below are_below share_between is_share_paper",
    fastbeats: "beats_for",
    knotrounds: "knot_rounds chain_rounds",
    rests: "state_count rests is_rising least_rest greatest_rest climb",
    orbits: "orbit rings",
    traps: "is_trap trap_around rest_within toggle_within",
    stirs: "fixed_lot unrest is_stir stir_left",
    mending: "calms fewest_houses fewest_paper is_fewest_paper",
    cutting: "all_branches cut_net cuts_calm fewest_cuts",
    openparts: "ends_given given_net",
    endtables: "ends_table is_within unlike_row",
    together: "put_together joined_ends",
    stops: "is_stopped_run stopped_shown",
    plainruns: "plain_run",
    losses: "are_lossy longest_loss filled settled_with",
    living: "closed is_life begun known rests_in",
    livingchanges: "is_change changed",
    lives: "lived diary",
    settings: "settings set_net resting_settings first_toggling",
    forcing: "forcing answer",
    sureworths: "sure_ends sure_houses all_sure is_sure_paper",
    distancenets: "distance_net distances slow_rounds",
    votenets: "vote_net won standing_lots",
    circuitnets: "is_circuit circuit_net known_gates",
    pricenets: "price_net price_ends",
    sheets: "sheet_holds sheet wrong_sheets",
}
# Here a net, a house and so on are those of chapters 9 and 10.
TABLES = (tablenets, pricing, tablerests, tableruns, shares, fastbeats)
# Here they are a net with a rest, or with inputs.
MENDING = (stirs, mending, cutting, openparts)
# Here they are a net with inputs and outputs, of two parts, with stops and losses, or with a life.
LIVING = (endtables, together, stops, plainruns, losses, living, livingchanges, lives, settings, forcing, sureworths)
# Here something is worked into a net, or looked at as a sheet.
WORKED = (distancenets, votenets, circuitnets, pricenets, sheets)
ARGUMENTS = {
    "is_rule": "value", "branches": "rule", "told": "rule heard", "is_net": "value", "is_state": "net value",
    "net_of": "tops rules", "wanted": "net house heard", "heard_in": "net house state", "next_state": "net state",
    "is_rest": "net state", "with_rule": "net house rule", "fixed": "net house worth", "renamed_net": "net names",
    "renamed_state": "state names", "hearers": "net house", "reached": "net house", "knots": "net", "tokens_of": "text",
    "token_places": "text", "net_tokens": "net", "net_text": "net", "read_net": "text", "may_follow": "text",
    "completed": "text", "is_past": "net d value", "is_lateness": "net d value", "can_follow": "lateness later",
    "is_run": "net d value", "shows_next": "net past lateness", "shown": "net d run", "past_behind": "net d run",
    "led_on": "net d run latenesses", "even_run": "net d state beats", "can_show": "net d past beat most",
    "range_of": "net rule", "house_range": "net house", "ways": "net house", "are_one_way": "net",
    "end_heard": "net house lows highs", "exact_ways": "net house", "shown_ways": "net house branch", "first_ends": "net",
    "next_ends": "net ends", "ends_behind": "net rounds", "last_ends": "net", "rounds_needed": "net", "rests_always": "net",
    "the_rest": "net", "resting_houses": "net", "ends_at": "net d beat", "settled_from": "net d", "rest_paper": "net",
    "is_rest_paper": "net value", "toggle_ends": "net", "is_toggle": "net value", "toggle_run": "net d ends beats",
    "first_lots": "net", "lots_next": "net lots", "lot_rounds": "net", "last_lots": "net", "known_rounds": "net",
    "is_sure": "net", "is_loose_run": "net value", "loose_states": "net run", "lot_paper": "net", "is_lot_paper": "net value",
    "restless_run": "net paper late beats", "fraction": "a d", "is_fraction": "value", "is_table_net": "value",
    "table_net_of": "table adds", "table_branches": "net house", "table_wanted": "net house heard",
    "price_sums": "net prices", "are_prices": "net value", "are_swinging": "net value", "priced": "net", "pivots": "net",
    "some_rest": "net", "has_one_rest": "net", "share": "net prices", "farthest": "net rest prices states",
    "is_table_run": "net value", "table_states": "net run", "swing_run": "net swing beats", "priced_below": "net by",
    "are_below": "net by value", "share_between": "net halvings", "is_share_paper": "net value",
    "beats_for": "net prices d far near", "knot_rounds": "net", "chain_rounds": "net", "state_count": "net",
    "rests": "net most", "is_rising": "net", "least_rest": "net", "greatest_rest": "net", "climb": "net state",
    "orbit": "net state most", "rings": "net most", "is_trap": "net value", "trap_around": "net state",
    "rest_within": "net trap", "toggle_within": "net trap", "fixed_lot": "net rest lot", "unrest": "ends",
    "is_stir": "net rest value", "stir_left": "net rest lot", "calms": "net rest lot", "fewest_houses": "net rest",
    "fewest_paper": "net rest", "is_fewest_paper": "net rest value", "all_branches": "net", "cut_net": "net rest cuts",
    "cuts_calm": "net rest cuts", "fewest_cuts": "net rest", "ends_given": "net inputs ends", "given_net": "net inputs ends",
    "ends_table": "net inputs outputs", "is_within": "one other", "unlike_row": "table other",
    "put_together": "first second ties", "joined_ends": "first second heard brought", "is_stopped_run": "net d e value",
    "stopped_shown": "net d run", "plain_run": "net d e run", "are_lossy": "net d value", "longest_loss": "rows", "filled": "rows",
    "settled_with": "net d e loss", "closed": "net ends", "is_life": "value", "begun": "net d", "known": "life",
    "rests_in": "life", "is_change": "life value", "changed": "life change", "lived": "life changes",
    "diary": "life changes", "settings": "net inputs", "set_net": "net inputs setting", "resting_settings": "net inputs",
    "first_toggling": "net inputs", "forcing": "net mine others", "answer": "net mine others setting",
    "sure_ends": "net inputs", "sure_houses": "net inputs", "all_sure": "net inputs", "is_sure_paper": "net inputs value",
    "distance_net": "n lengths goal top", "distances": "n lengths goal top", "slow_rounds": "n lengths goal top",
    "vote_net": "n links needs", "won": "n links needs seeds", "standing_lots": "n links needs", "is_circuit": "value",
    "circuit_net": "gates", "known_gates": "gates", "price_net": "offers", "price_ends": "offers", "sheet_holds": "value",
    "sheet": "name question", "wrong_sheets": "values",
}


def arguments(rng):
    """For each name of an argument something to pass; the values are passed where any value may be."""
    net = rng.choice((drawn_net(rng, houses=3, many=rng.choice((2, 9)), most_top=9), small_net(rng, heard=2)))
    if rng.random() < 0.7:
        net = one_way(rng, net)
    d = rng.choice((2, 3, 9))
    run = drawn_run(rng, net, d, 4)
    hearing = [house for house in range(3) if rules.branches(net[1][house])]
    house = rng.choice(hearing or [0])
    lows, highs = drawn_ends(rng, net)
    values = [net[1][0], net, run, run[0], run[1][0], run[0][0], [1, [2]], {"is": [0]}, [net, [run]], None, (lows, highs),
              [[lows], highs], (((0,) * 3, net[0]), [(lows, lows)]), ((lows, list(highs)),)]
    return {
        "net": net, "house": house, "state": run[0][0], "rule": net[1][house], "d": d, "run": run, "past": run[0],
        "lateness": run[1][0], "later": run[1][1], "latenesses": (drawn_lateness(rng, net, d, run[1][-1]),),
        "heard": (1,) * len(rules.branches(net[1][house])), "worth": 0, "names": tuple(rng.sample(range(3), 3)), "tops": list(net[0]),
        "rules": list(net[1]), "text": net_text(net), "value": rng.choice(values), "beats": 3, "beat": 1, "most": 3000,
        "branch": 0 if hearing else None, "lows": lows, "highs": highs, "ends": (lows, highs), "rounds": 2,
        "lots": tuple(tuple(range(low, high + 1)) for low, high in zip(lows, highs)), "a": rng.randint(-9, 9),
        "paper": paper_of(net), "late": 9, "trap": rng.choice(values + [((0,) * 3, net[0])] * 9),
    }


def paper_of(net):
    """The paper of the last lots, or None."""
    try:
        return lotpapers.lot_paper(net)
    except Refused:
        return None


def mending_arguments(rng):
    """For each name of an argument something to pass to the functions that want a rest, or inputs."""
    found = ()
    while not found:
        net = small_net(rng, top=2, heard=3)
        if rng.random() < 0.8:
            net = one_way(rng, net)
        found = rests.rests(net, 1000)
    lows, highs = drawn_ends(rng, net)
    inputs = tuple(sorted(rng.sample(range(3), 2)))
    every = cutting.all_branches(net)
    rest = rng.choice(found)
    values = [net, (lows, highs), ((0,) * 3, net[0]), ((), ()), (inputs, ((lows, highs),)), ([0], [(lows, highs)]), None, [1],
              {"is": [0]}, (inputs, [])]
    return {
        "net": net, "rest": rest, "value": rng.choice(values), "lot": inputs, "cuts": every[::2], "inputs": inputs,
        "ends": (tuple(lows[house] for house in inputs), tuple(highs[house] for house in inputs)),
    }


def living_arguments(rng):
    """For each name of an argument something to pass to the functions of parts, stops, losses, lives and settings."""
    net, second = [one_way(rng, small_net(rng, houses=houses, top=2, heard=3)) for houses in (3, 2)]
    inputs = tuple(sorted(rng.sample(range(3), 2)))
    table = endtables.ends_table(net, (0,), (1, 2))
    ends = drawn_ends(rng, net)
    d, e, loss = 2, rng.choice((1, 3)), 2
    rows = drawn_lossy(rng, net, d, loss, 5)
    run = drawn_stopped_run(rng, net, d, e, 6)
    life = (net, d, living.closed(net, ends), rng.randrange(9))
    changes = [("wait", 3), ("seen", 0, 0, 9), ("house", 2, ("hear", 3)), ("rule", 3, ("is", 1))]
    values = [net, run, list(run), rows, list(rows), life, list(life), ("rule", 0, ["is", 1]), ["wait", 1], [changes], {"is": [0]}]
    return {
        "net": net, "inputs": inputs, "outputs": (0, 2), "one": ends, "is_within.other": living.closed(net, ends), "table": table,
        "unlike_row.other": endtables.ends_table(net, (0,), (0, 1)), "first": net, "second": second, "ties": ((0, 4), (3, 1)),
        "joined_ends.first": table, "joined_ends.second": endtables.ends_table(second, (0, 1), (1,)), "heard": (0,), "brought": (1, 0),
        "d": d, "e": e, "loss": loss, "run": run, "rows": rows, "ends": ends, "life": life, "value": rng.choice(values + changes),
        "change": rng.choice(changes[:3]), "changes": changes[:rng.choice((0, 3, 4))], "setting": (0, 0), "mine": inputs,
        "others": tuple(house for house in range(3) if house not in inputs),
        "is_sure_paper.value": rng.choice((((((0,) * 3, net[0]),) * 2), [((0,) * 3, net[0])], (([0] * 3, net[0]),), (ends, [ends]))),
    }


def worked_arguments(rng):
    """For each name of an argument something to pass to the functions of worked nets and of sheets."""
    net, table = one_way(rng, small_net(rng)), drawn_table_net(rng, houses=2)
    lists = [[1, [2]], ("rest", [net], ()), ["rest", (net,), ()], ("trap", (net,), list(ends.last_ends(net))), {"is": [0]}, [net]]
    gates = (("in", 1), ("or", (1, 2)), ("and", (0, 1)), ("not", 0))
    values = lists + [("trap", (net,), ends.last_ends(net)), ("share", (table, 3), shares.share_between(table, 3)), gates, list(gates)]
    name, question = rng.choice((("trap", (net,)), ("share", (table, 2)), ("rest", (net,)), ("swing", (table,)), ("trap", [net]), ([], net)))
    return {
        "n": 4, "lengths": ((0, 1, 2), (1, 2, 9), (2, 0, 1)), "goal": rng.randrange(4), "top": 9, "links": ((0, 1), (1, 2), (1, 3)),
        "needs": tuple(rng.randrange(4) for _ in range(4)), "seeds": (rng.randrange(4),), "gates": gates, "name": name,
        "question": question, "offers": ((5, 2, 1, 30, (1,)), (3, 1, 4, 30, (0,)), (3, 1, 4, 9, ())), "value": rng.choice(values),
        "values": values if rng.random() < 0.7 else tuple(values),
    }


def table_arguments(rng):
    """For each name of an argument something to pass to the functions of tables."""
    net = drawn_table_net(rng, houses=2, most=2)
    prices = (rng.randint(1, 4), rng.randint(1, 4))
    run = drawn_table_run(rng, net, rng.choice((2, 3)), 3)
    kind, numbers = pricing.priced(net)
    values = [net, run, numbers, (kind, numbers), list(net), [run], [2, 1], (1, [2]), shares.share_between(net, 3), {"is": [0]}]
    return {
        "net": net, "house": rng.randrange(2), "value": rng.choice(values), "run": run, "beats": 3, "prices": prices,
        "swing": numbers, "heard": ((1, 2), (-3, 1)), "rest": run[0][0], "states": run[0], "by": (1, rng.randint(1, 3)),
        "halvings": 3, "table": [[1, (2, -4)], [0, -1]], "adds": [(3, 9), 4], "d": 2, "far": (rng.randint(1, 99), 1),
        "near": (1, 2),
    }


def is_of_tuples(value):
    """Whether a value is made of nothing but plain tuples, integers, strings, truth values and None."""
    if type(value) is tuple:
        return all(is_of_tuples(entry) for entry in value)
    return value is None or type(value) in (int, str, bool)


def asked(function, given):
    """What a function tells, or the error by which it refuses the question."""
    try:
        return "told", function(**given)
    except (Refused, InvalidQuestion) as error:
        return type(error).__name__, error.at


class ValuesTest(unittest.TestCase):
    def functions(self):
        for module, names in INTERFACE.items():
            for name in names.split():
                yield module, getattr(module, name)

    def drawn(self, rng):
        """For each module with arguments of its own what to pass."""
        drawn = {}
        for modules, draw in ((TABLES, table_arguments), (MENDING, mending_arguments), (LIVING, living_arguments),
                              (WORKED, worked_arguments)):
            drawn.update(dict.fromkeys(modules, draw(rng)))
        return drawn

    def given(self, name, given_by):
        """What is passed to a function; an argument may have a value for this one alone."""
        return {argument: given_by[f"{name}.{argument}" if f"{name}.{argument}" in given_by else argument]
                for argument in ARGUMENTS[name].split()}

    def test_names_and_arguments(self):
        for module, function in self.functions():
            code = function.__code__
            self.assertEqual(function.__module__, module.__name__)
            self.assertEqual(code.co_varnames[:code.co_argcount], tuple(ARGUMENTS[function.__name__].split()))

    def test_nothing_is_changed_and_all_is_of_tuples(self):
        rng = random.Random(31)
        told_by = {}
        for _ in range(60):
            passed, drawn = arguments(rng), self.drawn(rng)
            for module, function in self.functions():
                name = function.__name__
                given_by = drawn.get(module, passed)
                if (name == "shown_ways" and passed["branch"] is None) or (name == "restless_run" and not passed["paper"]):
                    continue
                given = self.given(name, given_by)
                before = copy.deepcopy(given)
                told = asked(function, given)
                self.assertEqual(given, before)
                self.assertIs(is_of_tuples(told), True, (name, told))
                self.assertEqual(asked(function, before), told)
                if told[0] == "told":
                    told_by[name] = told_by.get(name, 0) + 1
                    self.assertIs(type(function(*given.values())), type(told[1]))
        self.assertEqual(set(told_by), set(ARGUMENTS))
        self.assertGreater(min(told_by.values()), 4, told_by)

    def test_whether_is_answered_by_true_or_false(self):
        rng = random.Random(32)
        for _ in range(20):
            passed, drawn = arguments(rng), self.drawn(rng)
            for module, function in self.functions():
                name = function.__name__
                if name.startswith(("is_", "can_follow", "are_", "rests_always", "has_", "calms", "cuts_calm", "all_sure", "sheet_holds")):
                    kind, told = asked(function, self.given(name, drawn.get(module, passed)))
                    self.assertTrue(kind != "told" or repr(told) in ("True", "False"), name)


if __name__ == "__main__":
    unittest.main()
