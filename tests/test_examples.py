"""The examples that the document gives for these modules, row by row."""

import unittest

from newsbehind import beats, lateness, nets, nettexts, reading, rules, tokens

TWO = 'net_of([3, 3], [("from", 3, ("hear", 1)), ("most", (("is", 1), ("hear", 0)))])'
LATE = 'net_of([3, 3], [("from", 3, ("hear", 1)), ("hear", 0)])'
RUN = "(((0, 0), (3, 1)), (((1,), (2,)), ((2,), (1,))))"

EXAMPLES = (
    (TWO, 'branches(net[1][1]), told(("middle", ("hear", 0), ("is", 2), ("hear", 0)), (5, 1)), wanted(net, 0, (1,))',
     "((0,), 2, 2)"),
    (TWO, "next_state(net, (0, 3)), is_rest(net, (2, 2)), is_rest(fixed(net, 1, 1), (2, 1)), heard_in(net, 0, (0, 3))",
     "((0, 1), False, True, (3,))"),
    (TWO, "hearers(net, 0), reached(net, 0), knots(fixed(net, 1, 1)), renamed_net(net, (1, 0))[1][1]",
     "((1,), (0, 1), ((0,), (1,)), ('from', 3, ('hear', 0)))"),
    (TWO, '" ".join(net_tokens(net))',
     "'house 0 top 3 : from 3 ( of 1 ) ; house 1 top 3 : most ( 1 , of 0 ) ;'"),
    (TWO, 'read_net(net_text(net)) == net, read_net("house 0 top 2: clip 0 1 (of 0); # one\\n")',
     "(True, ((2,), (('clip', 0, 1, ('hear', 0)),)))"),
    (TWO, 'may_follow("house 0 top 9 : 4"), may_follow("house 0 top 9 : 4 ;"), '
     'len(may_follow("house 0 top 9 : of 1 ; house 1 top")), token_places("a #b\\n;")',
     "((';',), ('house',), 1001, (0, 5))"),
    (LATE, "shown(net, 2, run), past_behind(net, 2, run), can_follow(((1,), (3,)), ((2,), (1,)))",
     "(((2, 0), (2, 2)), ((2, 0), (2, 2)), True)"),
)


class ExamplesTest(unittest.TestCase):
    def test_each_row(self):
        names = {}
        for module in (rules, nets, tokens, nettexts, reading, lateness, beats):
            names.update(vars(module))
        for net, row, answer in EXAMPLES:
            scope = dict(names, net=eval(net, dict(names)), run=eval(RUN))
            self.assertEqual(repr(eval(row, scope)), answer)

    def test_even_news_of_chapter_5(self):
        """The example's even run, written out: its own function is of another module."""
        net = nets.net_of([3, 3], [("from", 3, ("hear", 1)), ("hear", 0)])
        even = (((0, 3), (0, 3)), (((1,), (1,)),) * 3)
        self.assertEqual(beats.shown(net, 2, even), ((0, 0), (3, 0), (3, 3)))


if __name__ == "__main__":
    unittest.main()
