"""Rules, nets and lateness for the tests: drawn from a seeded source, and built at the limits."""

import itertools

from newsbehind.nets import net_of
from newsbehind.rules import branches

ONE_INNER = ("times", "part", "clip", "from", "bar", "row")
LISTS = ("least", "most", "add")
ZERO = ("is", 0)

# Any value: nothing in any of these is a rule, a net, a state, a past, a lateness or a run.
ODD_VALUES = (
    None, True, False, 0, 1, -1, 10 ** 400, "", "is", "rule", b"is", (), [], {}, set(), object(), int, [1], (1,), ((),),
    (None,), ("is",), ("is", "0"), ("is", None), ("is", True), ["is", 0], ("is", 0, 0), ("", 0), (0, "is"), {"is": 0},
    range(2), frozenset(), ("hear", -1), ("hear", False), ("hear", 1001), ("least", ()), ("least", 3), (1.0,), 1.5,
    ((), ()), ([], []), ((), (), ()), ((True,), (("is", 0),)), (("least",),), ({},), ("IS", 0), (("is", 0), 1),
)


class Drawing:
    """Draws one rule: as many rules in it as wanted, and no more branches than may be heard."""

    def __init__(self, rng, houses, heard=12, most=None):
        self.rng = rng
        self.houses = houses
        self.heard = heard
        self.most = most

    def leaf(self):
        if self.heard > 0 and self.rng.random() < (0.6 if self.most is None else 0.9):
            self.heard -= 1
            return ("hear", self.rng.randrange(self.houses))
        return ("is", self.number())

    def number(self):
        if self.most is not None:
            return self.rng.choice((0, 1, 1, 2, 2, self.most - 1, self.most, self.most))
        return self.rng.choice((0, 1, 2, 3, 5, 9, 999, 1000, self.rng.randrange(1001)))

    def rule(self, many, levels):
        """A rule of so many rules, as far as the levels let them in."""
        if many == 1 or levels == 1:
            return self.leaf()
        words = ["list"] * 3 + ["one"] * 3
        if many >= 4:
            words += ["middle"] * 2
        kind = self.rng.choice(words)
        if kind == "one" and (levels > 2 or many == 2):
            return self.with_one(self.rule(many - 1, levels - 1))
        if kind == "middle" and (levels > 2 or many == 4):
            return ("middle",) + self.inner(many - 1, 3, levels - 1)
        counts = many - 1 if levels == 2 else self.rng.randint(1, many - 1)
        return (self.rng.choice(LISTS), self.inner(many - 1, counts, levels - 1))

    def inner(self, many, counts, levels):
        sizes = [1] * counts
        for _ in range(many - counts):
            sizes[self.rng.randrange(counts)] += 1
        return tuple(self.rule(size, levels) for size in sizes)

    def with_one(self, inner):
        word = self.rng.choice(ONE_INNER + ("row",) * (0 if self.most is None else 4))
        if word == "row":
            many = self.rng.choice((1, 2, 5, 63, 64) if self.most is None else (2, 3, 4, 4, 5))
            return (word, tuple(self.number() for _ in range(many)), inner)
        if word == "clip":
            return (word,) + tuple(sorted((self.number(), self.number()))) + (inner,)
        if word == "bar":
            return (word, self.number(), self.number(), self.number(), inner)
        if word == "part":
            return (word, max(1, self.number()), inner)
        return (word, self.number(), inner)


def drawn_rule(rng, houses, many=None):
    many = many or rng.choice((1, 2, 3, 5, 8, 20, 59, 60))
    return Drawing(rng, houses).rule(many, 8)


def drawn_net(rng, houses=None, many=None, most_top=1000):
    houses = houses or rng.choice((1, 2, 3, 5, 20))
    tops = [rng.randrange(most_top + 1) for _ in range(houses)]
    return net_of(tops, [drawn_rule(rng, houses, many) for _ in range(houses)])


def small_net(rng, houses=3, many=(1, 2, 3, 4, 5, 7), top=3, heard=12):
    """A net in which all numbers are small, so that what its houses hear matters to them."""
    tops = [rng.choice((0, 1, top, top, top, top)) for _ in range(houses)]
    return net_of(tops, [Drawing(rng, houses, heard, top + 1).rule(rng.choice(many), 8) for _ in range(houses)])


def straightened(rng, rule):
    """The rule with the entries of each row in order, up or down: no branch goes both ways."""
    if rule[0] == "row":
        return ("row", tuple(sorted(rule[1], reverse=rng.random() < 0.5)), straightened(rng, rule[2]))
    return tuple(straightened(rng, part) if isinstance(part, tuple) and part and isinstance(part[0], str)
                 else tuple(straightened(rng, inner) for inner in part) if rule[0] in LISTS and isinstance(part, tuple)
                 else part for part in rule)


def one_way(rng, net):
    """The net with all rows straightened."""
    return net_of(net[0], [straightened(rng, rule) for rule in net[1]])


def two_sided_net(rng, houses=3, top=3):
    """A net of even and odd houses, with falling branches between unlike ones and rising ones between alike ones."""
    tops = [rng.randint(1, top) for _ in range(houses)]
    sides = [rng.randrange(2) for _ in range(houses)]
    rules = []
    for house in range(houses):
        parts = []
        for other in rng.choices(range(houses), k=rng.choice((1, 2, 2, 3))):
            part = ("hear", other)
            if sides[other] != sides[house]:
                part = ("from", rng.randint(1, top + 1), part)
            parts.append(("row", tuple(sorted(rng.choices(range(top + 1), k=3))), part) if rng.random() < 0.3 else part)
        rules.append((rng.choice(LISTS), tuple(parts)))
    return net_of(tops, rules), tuple(sides)


def all_states(net):
    return list(itertools.product(*[range(top + 1) for top in net[0]]))


def drawn_ends(rng, net):
    pairs = [sorted((rng.randint(0, top), rng.randint(0, top))) for top in net[0]]
    return tuple(low for low, _ in pairs), tuple(high for _, high in pairs)


def drawn_state(rng, net):
    return tuple(rng.randint(0, top) for top in net[0])


def drawn_past(rng, net, d):
    return tuple(drawn_state(rng, net) for _ in range(d))


def drawn_lateness(rng, net, d, ahead=None):
    """A lateness for d that may follow the one ahead, if there is one."""
    rows = []
    for house, rule in enumerate(net[1]):
        most = [d] * len(branches(rule)) if ahead is None else [min(d, late + 1) for late in ahead[house]]
        rows.append(tuple(rng.randint(1, late) for late in most))
    return tuple(rows)


def drawn_run(rng, net, d, beats):
    latenesses = []
    for _ in range(beats):
        latenesses.append(drawn_lateness(rng, net, d, latenesses[-1] if latenesses else None))
    return (drawn_past(rng, net, d), tuple(latenesses))


def within(word, levels, inner=ZERO):
    """A rule of so many levels: a leaf within rules with one number each."""
    for _ in range(levels - 1):
        inner = (word, 1, inner)
    return inner


def greatest_rule(houses=20):
    """A rule with 12 branches, 60 rules in it, and 8 rules within one another."""
    leaves = [("hear", number % houses) for number in range(12)] + [("is", 1000)] * 29
    deep = within("from", 7)
    rows = [("row", tuple(range(1000, 936, -1)), leaf) for leaf in leaves[:11]]
    return ("most", (deep,) + tuple(rows) + tuple(leaves[11:]))


def greatest_net():
    return net_of([1000] * 20, [greatest_rule()] * 20)


def drawn_stopped_run(rng, net, d, e, beats, often=0.5):
    """A stopped run for d and e: each house moves now and then, and whenever it must."""
    moved = [(-1, None)] * len(net[0])
    told = []
    for beat in range(beats):
        movers = [house for house, (last, _) in enumerate(moved) if rng.random() < often or beat - last == e]
        lateness = list(drawn_lateness(rng, net, d))
        for house in movers:
            last, row = moved[house]
            if row is not None:
                lateness[house] = tuple(rng.randint(1, min(d, late + beat - last)) for late in row)
            moved[house] = (beat, lateness[house])
        told.append((tuple(movers), tuple(lateness)))
    return (drawn_past(rng, net, d), tuple(told))


def drawn_lossy(rng, net, d, loss, beats, often=0.4):
    """Lossy latenesses for d in which no more news than told is lost one behind another."""
    rows = []
    last = [[d] * len(branches(rule)) for rule in net[1]]
    lost = [[loss] * len(row) for row in last]
    for _ in range(beats):
        entry = []
        for house, row in enumerate(last):
            numbers = []
            for at in range(len(row)):
                if lost[house][at] < loss and rng.random() < often:
                    lost[house][at] += 1
                    numbers.append(None)
                else:
                    most = d if not rows else min(d, row[at] + lost[house][at] + 1)
                    row[at] = rng.randint(1, most)
                    lost[house][at] = 0
                    numbers.append(row[at])
            entry.append(tuple(numbers))
        rows.append(tuple(entry))
    return tuple(rows)
