"""Cutting: the fewest branches that, told what is heard in a rest, bring a net to it."""

from newsbehind.endrounds import ends_led_to
from newsbehind.ends import last_ends
from newsbehind.errors import Refused
from newsbehind.fewest import Choice, number_of, things_in
from newsbehind.resting import rests_always
from newsbehind.ruleforms import inner_rules, made_rule, own_numbers
from newsbehind.rules import branches
from newsbehind.stirs import unrest
from newsbehind.ways import one_way_words

MOST_CUT = 16


def all_branches(net):
    """All branches of a net: pairs of a house and the number of a branch of its rule."""
    return tuple([(house, branch) for house, rule in enumerate(net[1]) for branch in range(len(branches(rule)))])


def _cut_rule(rule, rest, cut, at):
    """A pair: a rule with such branches cut, its first one having the number at, and the number behind its last."""
    word = rule[0]
    if word == "hear":
        return ("is", rest[rule[1]]) if at in cut else rule, at + 1
    parts = []
    for part in inner_rules(rule):
        made, at = _cut_rule(part, rest, cut, at)
        parts.append(made)
    return made_rule(word, own_numbers(rule), tuple(parts)), at


def cut_net(net, rest, cuts):
    """The net in which each of these branches always brings what the house that it hears shows in the rest."""
    cut = [[branch for other, branch in cuts if other == house] for house in range(len(net[0]))]
    return net[0], tuple([_cut_rule(rule, rest, row, 0)[0] for rule, row in zip(net[1], cut)])


def cuts_calm(net, rest, cuts):
    """Whether a net with these branches cut comes to rest always."""
    one_way_words(net)
    return rests_always(cut_net(net, rest, cuts))


class Cuts:
    """Lots of branches of which each calming cuts have one, asked for one by one."""

    def __init__(self, net, rest):
        self.net = net
        self.rest = rest
        self.every = all_branches(net)
        self.heard = [branches(net[1][house])[branch] for house, branch in self.every]
        self.last = last_ends(net)

    def held(self, cuts, ends):
        """The last ends of the net with these branches cut, begun with ends within which they lie."""
        made = cut_net(self.net, self.rest, [self.every[at] for at in cuts])
        return ends_led_to(made, one_way_words(made), ends)

    def stirring(self, cuts, ends):
        """The branches left by which a house of the unrest hears one of it."""
        houses = unrest(ends)
        return [
            at for at, (house, _) in enumerate(self.every)
            if house in houses and self.heard[at] in houses and at not in cuts
        ]

    def lot_without(self, chosen):
        """The number of branches, one of which must be cut besides what is chosen, 0 if that calms."""
        cuts = things_in(chosen)
        ends = self.held(cuts, self.last)
        # Whatever can be cut, too, without the net coming to rest, is not needed.
        for at in self.stirring(cuts, ends):
            narrower = self.held(cuts + [at], ends)
            if narrower[0] != narrower[1]:
                cuts.append(at)
                ends = narrower
        return number_of(self.stirring(cuts, ends))


def fewest_cuts(net, rest):
    """Calming cuts, as few as any."""
    one_way_words(net)
    every = all_branches(net)
    if len(every) > MOST_CUT:
        raise Refused(len(every))
    return tuple([every[at] for at in things_in(Choice((), Cuts(net, rest)).fewest())])
