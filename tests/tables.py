"""Table nets for the tests, and what they want, told by Python's own fractions."""

from fractions import Fraction

from newsbehind.tablenets import table_branches, table_net_of

# Any value: nothing in any of these is a fraction, a table net or a table run.
ODD_RATIOS = (
    None, True, 0, 1, (), (1,), (1, 0), (0, 0), (0, 2), (2, 4), (-2, 4), (1, -1), (-1, -1), (1, 1, 1), [1, 2], "1", ("1", "2"),
    (True, 1), (1, True), (1.0, 1), (1, 1.0), (None, 1), ((1, 1), 1), {1: 1}, 10 ** 400, (10 ** 399, 10 ** 398), b"12", "12",
    Fraction(1, 2), (0, 0, 1), range(2),
)


def value_of(ratio):
    return Fraction(*ratio)


def pair_of(value):
    return value.numerator, value.denominator


def drawn_table_net(rng, houses=None, most=4, dens=(1, 2, 3, 4), none=0.3):
    """A table net with entries of few sizes, some of them 0, so that prices and swings both come up."""
    houses = houses or rng.randint(1, 4)

    def entry():
        return 0 if rng.random() < none else (rng.randint(-most, most), rng.choice(dens) * rng.choice((1, 2)))

    table = [[entry() for _ in range(houses)] for _ in range(houses)]
    return table_net_of(table, [(rng.randint(-9, 9), rng.randint(1, 5)) for _ in range(houses)])


def great_table_net(rng, houses=20, most=40, add=1000):
    """A table net of great numbers; with entries up to 40 thousandths it mostly has prices."""
    table = [[(rng.randint(-most, most), rng.randint(900, 1000)) for _ in range(houses)] for _ in range(houses)]
    return table_net_of(table, [(rng.randint(-add, add), rng.randint(1, 1000)) for _ in range(houses)])


def table_of(net):
    return [[value_of(entry) for entry in row] for row in net[0]]


def sizes_of(net):
    return [[abs(entry) for entry in row] for row in table_of(net)]


def sums_of(net, numbers):
    return [sum(entry * number for entry, number in zip(row, numbers)) for row in sizes_of(net)]


def slow_next(net, state):
    """The state that is wanted hearing a state, both of Python's fractions."""
    return [value_of(add) + sum(entry * worth for entry, worth in zip(row, state))
            for row, add in zip(table_of(net), net[1])]


def slow_states(net, run):
    past, latenesses = run
    states = [[value_of(worth) for worth in state] for state in past]
    table = table_of(net)
    for lateness in latenesses:
        state = []
        for house, row in enumerate(lateness):
            total = value_of(net[1][house])
            for other, late in zip([at for at, entry in enumerate(table[house]) if entry], row):
                total += table[house][other] * states[-late][other]
            state.append(total)
        states.append(state)
    return tuple(tuple(pair_of(worth) for worth in state) for state in states[len(past):])


def drawn_ratio(rng, most=9):
    return pair_of(Fraction(rng.randint(-most, most), rng.randint(1, 5)))


def drawn_table_run(rng, net, d, beats, most=9):
    counts = [len(table_branches(net, house)) for house in range(len(net[0]))]
    latenesses = []
    for _ in range(beats):
        ahead = latenesses[-1] if latenesses else None
        rows = []
        for house, count in enumerate(counts):
            rows.append(tuple(rng.randint(1, d if ahead is None else min(d, ahead[house][at] + 1)) for at in range(count)))
        latenesses.append(tuple(rows))
    past = tuple(tuple(drawn_ratio(rng, most) for _ in net[0]) for _ in range(d))
    return past, tuple(latenesses)
