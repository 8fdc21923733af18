"""The examples that the document gives for these modules, row by row."""

import unittest

from newsbehind import (
    beats, circuitnets, cutting, desk, distancenets, ends, endtables, exactways, fastbeats, forcing, houses, knotrounds, lateness,
    lives, living, livingchanges, looseruns, losses, lotpapers, lots, mending, nets, nettexts, openparts, orbits, plainruns,
    pricenets, pricing, ranges, ratios, reading, resting, restpapers, rests, rules, settings, shares, sheets, showing, stirs, stops,
    sureworths, tablenets, tablerests, tableruns, together, toggles, tokens, traps, votenets, ways,
)

TWO = 'net_of([3, 3], [("from", 3, ("hear", 1)), ("most", (("is", 1), ("hear", 0)))])'
LATE = 'net_of([3, 3], [("from", 3, ("hear", 1)), ("hear", 0)])'
WAYS = ('net_of([3, 2], [("row", (0, 2, 1), ("hear", 1)), ("add", (("hear", 0), ("from", 3, ("hear", 0)), '
        '("bar", 9, 0, 1, ("hear", 1))))])')
CALM = 'net_of([3, 3], [("part", 2, ("hear", 1)), ("clip", 1, 2, ("hear", 0))])'
LOTS = 'net_of([2, 1], [("row", (1, 2, 0), ("hear", 0)), ("bar", 1, 1, 0, ("least", (("hear", 0), ("hear", 1))))])'
OTHER = 'net_of([3], [("part", 2, ("hear", 0))])'
TABLE = "table_net_of([[0, (1, 2)], [-1, (1, 4)]], [1, 0])"
SWINGING = "table_net_of([[2]], [0])"
PAPER = "(((0, 1, 2),), (((2,), (0,), (1,)),))"
CHAIN = 'net_of([3, 3, 3], [("is", 2), ("hear", 0), ("part", 2, ("add", (("hear", 1), ("hear", 2))))])'
RISING = 'net_of([3, 3], [("most", (("is", 1), ("hear", 1))), ("clip", 0, 2, ("hear", 0))])'
MEND = 'net_of([2, 2, 2], [("hear", 1), ("hear", 0), ("most", (("hear", 0), ("hear", 2)))])'
OPEN = 'net_of([3, 3, 3], [("is", 0), ("least", (("hear", 0), ("from", 3, ("hear", 2)))), ("hear", 1)])'
HALF = 'net_of([3, 3], [("is", 0), ("part", 2, ("hear", 0))])'
RUN = "(((0, 0), (3, 1)), (((1,), (2,)), ((2,), (1,))))"
STOPPED = "(((3, 0), (2, 2)), (((0,), ((1,), (1,))), ((1,), ((1,), (2,))), ((0, 1), ((2,), (1,)))))"
LIVING = 'net_of([8, 8], [("part", 2, ("hear", 1)), ("hear", 0)])'
LIFE = 'changed(begun(net, 2), ("wait", 5))'
LATER = f'changed({LIFE}, ("rule", 0, ("most", (("is", 3), ("hear", 1)))))'
SET = ('net_of([1, 1, 3, 3], [("is", 0), ("is", 0), ("bar", 1, 0, 3, ("least", (("hear", 0), ("hear", 1)))), '
       '("from", 3, ("hear", 3))])')
STILL = f"fixed({SET}, 3, 2)"
# The house of chapter 18 stands where a net stands in other rows.
HOUSE = 'House("house 0 top 8 : part 2 ( of 1 ) ; house 1 top 8 : of 0 ;", 2)'

EXAMPLES = (
    (TWO, 'branches(net[1][1]), told(("middle", ("hear", 0), ("is", 2), ("hear", 0)), (5, 1)), wanted(net, 0, (1,))',
     "((0,), 2, 2)"),
    (TWO, "next_state(net, (0, 3)), is_rest(net, (2, 2)), is_rest(fixed(net, 1, 1), (2, 1)), heard_in(net, 0, (0, 3))",
     "((0, 1), False, True, (3,))"),
    (TWO, "hearers(net, 0), reached(net, 0), knots(fixed(net, 1, 1)), renamed_net(net, (1, 0))[1][1]",
     "((1,), (0, 1), ((0,), (1,)), ('from', 3, ('hear', 0)))"),
    (TWO, '" ".join(net_tokens(net))',
     "'house 0 top 3 : from 3 ( of 1 ) ; house 1 top 3 : most ( 1 , of 0 ) ;'"),
    (TWO, 'read_net(net_text(net)) == net, read_net("house 0 top 2: clip 0 1 (of 0); # one\\n")',
     "(True, ((2,), (('clip', 0, 1, ('hear', 0)),)))"),
    (TWO, 'may_follow("house 0 top 9 : 4"), may_follow("house 0 top 9 : 4 ;"), '
     'len(may_follow("house 0 top 9 : of 1 ; house 1 top")), token_places("a #b\\n;")',
     "((';',), ('house',), 1001, (0, 5))"),
    (LATE, "shown(net, 2, run), past_behind(net, 2, run), can_follow(((1,), (3,)), ((2,), (1,)))",
     "(((2, 0), (2, 2)), ((2, 0), (2, 2)), True)"),
    (LATE, "shown(net, 2, even_run(net, 2, (0, 3), 3)), can_show(net, 2, ((0, 0), (3, 1)), 0, 100)",
     "(((0, 0), (3, 0), (3, 3)), ((2, 0), (2, 3), (3, 0), (3, 3)))"),
    (WAYS, "range_of(net, net[1][1]), house_range(net, 1), ways(net, 0), ways(net, 1), are_one_way(net)",
     "((0, 6), (0, 2), ('both',), ('rises', 'falls', 'none'), False)"),
    (WAYS, "exact_ways(net, 1), shown_ways(net, 0, 0), end_heard(net, 1, (1, 0), (2, 2))",
     "(('rises', 'falls', 'none'), ((0,), (1,)), ((1, 2, 0), (2, 1, 2)))"),
    (TWO, "next_ends(net, first_ends(net)), last_ends(net), rounds_needed(net), rests_always(net), toggle_ends(net)",
     "(((0, 1), (3, 3)), ((1, 1), (2, 2)), 4, False, ((1, 1), (2, 2)))"),
    (TWO, "toggle_run(net, 2, ((1, 1), (2, 2)), 2)", "(((1, 1), (2, 2)), (((1,), (2,)), ((1,), (2,))))"),
    (TWO,
     f"the_rest({CALM}), rounds_needed({CALM}), settled_from({CALM}, 2), ends_at({CALM}, 2, 2), resting_houses(net)",
     "((0, 1), 3, 4, ((0, 1), (1, 1)), ())"),
    (CALM, "is_rest_paper(net, (((0, 0), (3, 3)), ((0, 1), (1, 2)), ((0, 1), (1, 1)), ((0, 1), (0, 1))))", "True"),
    (LOTS, "lots_next(net, ((0, 2), (1,))), len(lot_rounds(net)), last_lots(net), is_sure(net)",
     "(((0, 1), (0, 1)), 1, ((0, 1, 2), (0, 1)), False)"),
    (OTHER, "lot_rounds(net), known_rounds(net), lot_paper(net)",
     "((((0, 1, 2, 3),), ((0, 1),), ((0,),)), (2,), None)"),
    (LOTS, f"is_lot_paper(net_of([2], [net[1][0]]), {PAPER}), restless_run(net_of([2], [net[1][0]]), {PAPER}, 3, 2)",
     "(True, (((0,), (1,), (2,)), (((1,),), ((1,),))))"),
    (TABLE, "net[0][1], table_wanted(net, 1, ((2, 1), (1, 1))), price_sums(net, (2, 3)), are_prices(net, (2, 3))",
     "(((-1, 1), (1, 4)), (-7, 4), ((3, 2), (11, 4)), True)"),
    (TABLE, "pivots(net), share(net, (2, 3)), some_rest(net), farthest(net, some_rest(net), (2, 3), (((0, 1), (0, 1)),))",
     "(((1, 1), (1, 4)), (11, 12), ((3, 5), (-4, 5)), (3, 10))"),
    (SWINGING, "pivots(net), are_swinging(net, (1,)), table_states(net, swing_run(net, (1,), 3))",
     "(((-1, 1),), True, (((2, 1),), ((-2, 1),), ((4, 1),)))"),
    (TABLE, 'priced_below(net, (1, 2))[0], are_below(net, (1, 2), ("swing", (1, 1))), '
     'are_below(net, (1, 1), ("prices", (2, 3)))', "('swing', True, True)"),
    (TABLE, "share_between(net, 4)[:2], beats_for(net, (2, 3), 2, (10, 1), (1, 1))", "(((45, 64), (27, 32)), 52)"),
    (CHAIN, "knot_rounds(net), chain_rounds(net), rounds_needed(net)", "((1, 1, 1), 3, 3)"),
    (RISING, "rests(net, 100), is_rising(net), least_rest(net), greatest_rest(net), climb(net, (3, 0)), climb(net, (1, 0))",
     "(((1, 1), (2, 2)), True, (1, 1), (2, 2), None, (1, 1))"),
    (RISING, "orbit(net, (3, 0), 9), rings(net, 100)[0]", "((((3, 0),), ((1, 2), (2, 1))), (((1, 1),), 4))"),
    (RISING, "is_trap(net, ((2, 2), (3, 3))), trap_around(net, (3, 1)), rest_within(net, ((2, 2), (3, 3))), "
     "toggle_within(net, ((0, 0), (3, 3)))", "(True, ((1, 1), (3, 2)), (2, 2), ((1, 1), (2, 2)))"),
    (MEND, "is_stir(net, (1, 1, 1), ((0, 0, 1), (2, 2, 2))), calms(net, (1, 1, 1), (0,)), calms(net, (1, 1, 1), (0, 2)), "
     "stir_left(net, (1, 1, 1), (0,))", "(True, False, True, ((1, 1, 1), (1, 1, 2)))"),
    (MEND, "len(fewest_houses(net, (1, 1, 1))), is_fewest_paper(net, (1, 1, 1), ((0, 2), (((0, 0, 1), (2, 2, 1)), "
     "((1, 1, 1), (1, 1, 2)))))", "(2, True)"),
    (MEND, 'all_branches(net), cuts_calm(net, (1, 1, 1), ((0, 0), (2, 1))), fewest_cuts(net_of([2], [("hear", 0)]), (1,))',
     "(((0, 0), (1, 0), (2, 0), (2, 1)), True, ((0, 0),))"),
    (OPEN, "ends_given(net, (0,), ((1,), (3,))), ends_given(net, (0,), ((2,), (2,)))",
     "(((1, 0, 0), (3, 3, 3)), ((2, 1, 1), (2, 2, 2)))"),
    (OPEN, "given_net(net, (0,), ((1,), (3,)))[1][0], len(ends_table(net, (0,), (2,))), ends_table(net, (0,), (2,))[0]",
     "(('bar', 3, 3, 1, ('hear', 0)), 10, (((0,), (0,)), ((0,), (0,))))"),
    (HALF, "joined_ends(ends_table(net, (0,), (1,)), ends_table(net, (0,), (1,)), (0,), (0,))", "(((0,), (0,)), ((0,), (0,)))"),
    (CALM, f"is_stopped_run(net, 2, 2, {STOPPED}), stopped_shown(net, 2, {STOPPED}), plain_run(net, 2, 2, {STOPPED})",
     "(True, ((1, 2), (1, 2), (1, 1)), (((3, 0), (2, 2), (1, 2)), (((2,), (2,)), ((2,), (1,)))))"),
    (CALM, "filled((((1,), (2,)), ((None,), (1,)), ((None,), (None,)), ((1,), (2,)))), settled_with(net, 2, 2, 1)",
     "((((1,), (2,)), ((2,), (1,)), ((3,), (2,)), ((1,), (2,))), 9)"),
    (LIVING, f'known({LIFE}), rests_in({LIFE}), rests_in(begun(net, 2)), known(changed({LIFE}, ("seen", 0, 0, 1)))',
     "(((0, 0), (4, 4)), 11, 16, ((0, 0), (2, 4)))"),
    (LIVING, f'{LATER}[1:], rests_in({LATER}), rests_in(changed({LATER}, ("rule", 1, ("is", 4))))',
     "((2, ((0, 0), (4, 4)), 0), None, 4)"),
    (SET, "settings(net, (0, 1)), resting_settings(net, (0, 1)), first_toggling(net, ()), sure_ends(net, (0,))",
     "(((0, 0), (0, 1), (1, 0), (1, 1)), (), (), ((0, 0, 0, 0), (1, 0, 0, 3)))"),
    (STILL, "forcing(net, (0,), (1,)), answer(net, (0,), (1,), (1,)), sure_houses(net, (0, 1)), sure_houses(net, (0,)), "
     "all_sure(net, (0,))", "((0,), None, (3,), (1, 2, 3), True)"),
    ("distance_net(3, ((0, 1, 2), (1, 0, 1), (1, 2, 5)), 2, 9)",
     "net[1][1], distances(3, ((0, 1, 2), (1, 0, 1), (1, 2, 5)), 2, 9), slow_rounds(2, ((0, 1, 1),), 1, 9)",
     "(('least', (('add', (('is', 1), ('hear', 0))), ('add', (('is', 5), ('hear', 2))))), (7, 5, 0), 2)"),
    ("None", "won(4, ((0, 1), (1, 2), (2, 3)), (1, 2, 1, 1), (0, 3)), standing_lots(3, ((0, 1), (1, 2)), (1, 1, 1))",
     "((0, 1, 2, 3), ((), (0, 1, 2)))"),
    ("None", 'known_gates((("in", 0), ("and", (0, 2)), ("not", 2))), price_ends(((5, 2, 1, 30, (1,)), (3, 1, 4, 30, (0,))))',
     "((0, 0, None), ((12, 15), (13, 16)))"),
    (HOUSE, 'net.verdict(), net.do(("wait", 5)), net.known(), net.verdict(), net.undo(), len(net)',
     "(('rest', (0, 0), 16), None, ((0, 0), (4, 4)), ('rest', (0, 0), 11), True, 0)"),
    (HOUSE, 'net.do(("rule", 0, ("hear", 1))), net.verdict()', "(None, ('toggle', ((0, 0), (8, 8))))"),
    (HOUSE, '(net.do(("rule", 0, ("hear", 1))), sheet("toggle", (net.net(),))[2], sheet_holds(("rest", (net.net(),), ())))[1:]',
     "(((0, 0), (8, 8)), False)"),
)

MODULES = (rules, nets, tokens, nettexts, reading, lateness, beats, showing, ranges, ways, exactways, ends, resting,
           restpapers, toggles, lots, looseruns, lotpapers, ratios, tablenets, pricing, tablerests, tableruns, shares,
           fastbeats, knotrounds, rests, orbits, traps, stirs, mending, cutting, openparts, endtables, together, stops,
           plainruns, losses, living, livingchanges, lives, settings, forcing, sureworths, distancenets, votenets, circuitnets,
           pricenets, houses, sheets, desk)


class ExamplesTest(unittest.TestCase):
    def test_each_row(self):
        names = {}
        for module in MODULES:
            names.update(vars(module))
        for net, row, answer in EXAMPLES:
            scope = dict(names, net=eval(net, dict(names)), run=eval(RUN))
            self.assertEqual(repr(eval(row, scope)), answer)


if __name__ == "__main__":
    unittest.main()
