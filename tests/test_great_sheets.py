"""[3]: the modules of chapters 16 to 18 with inputs at the limits, each answer within seconds."""

import random
import time
import unittest

from newsbehind.circuitnets import is_circuit, known_gates
from newsbehind.desk import Desk
from newsbehind.distancenets import distance_net, distances, slow_rounds
from newsbehind.ends import last_ends
from newsbehind.forcing import answer, forcing
from newsbehind.houses import House
from newsbehind.nets import is_net, net_of
from newsbehind.nettexts import net_text
from newsbehind.pricenets import price_ends, price_net
from newsbehind.restpapers import rest_paper
from newsbehind.sheets import sheet, sheet_holds, wrong_sheets
from newsbehind.sureworths import all_sure, is_sure_paper, sure_ends, sure_houses
from newsbehind.votenets import standing_lots, won
from sampling import greatest_net
from tables import great_table_net
from test_great_nets import SECONDS, ring


def with_limit(fat):
    """A ring of 19 houses that climbs as far as the last house lets it."""
    tops, rules = ring(fat)
    return net_of(tops, (("least", (("add", (("hear", 18), ("is", 1))), ("hear", 19))),) + rules[1:])


class GreatSheetsTest(unittest.TestCase):
    def setUp(self):
        self.begun = time.monotonic()

    def tearDown(self):
        self.assertLess(time.monotonic() - self.begun, SECONDS)

    def test_forcing_and_answers(self):
        net = with_limit(fat=False)
        self.assertEqual(forcing(net, (19,), ()), (0,))
        self.assertEqual(forcing(net, (), (19,)), ())
        self.assertIs(answer(net, (19,), (), (1000,)), None)
        # The 19 others turn round one another unless mine is at least 990.
        turning = ("least", (("from", 1000, ("hear", 18)), ("bar", 990, 1000, 0, ("hear", 19))))
        net = net_of([1000] * 20, (turning,) + tuple(("hear", house) for house in range(18)) + (("is", 0),))
        self.assertEqual(forcing(net, (19,), ()), (990,))
        self.assertEqual(answer(net, (19,), (), (989,)), ())
        self.assertIs(answer(net, (19,), (), (990,)), None)
        self.assertEqual(forcing(net, (18,), ()), (0,))
        self.assertIs(forcing(net, (), (19,)), None)
        self.assertEqual(answer(net, (), (19,), ()), (0,))

    def test_sure_ends_of_20000_rounds(self):
        for fat in False, True:
            net = with_limit(fat)
            self.assertEqual(sure_ends(net, (19,)), ((0,) * 20, (1000,) * 20))
            self.assertEqual(sure_houses(net, (19,)), ())
            net = ring(fat)
            self.assertEqual((sure_houses(net, ()), all_sure(net, ())), (tuple(range(20)), True))
            if not fat:
                self.assertIs(is_sure_paper(net, (), rest_paper(net)), True)
                self.assertIs(is_sure_paper(net, (7,), rest_paper(net)), False)
        paper = ((((0,) * 20, (1000,) * 20),) * 20000)
        self.assertIs(is_sure_paper(net, (19,), paper), False)
        self.assertIs(is_sure_paper(net, tuple(range(20)), paper), True)

    def test_sheets_of_20000_rounds(self):
        net = ring(False)
        told = sheet("rest", (net,))
        self.assertEqual(len(told[2]), 20001)
        self.assertIs(sheet_holds(told), True)
        self.assertEqual(wrong_sheets([told, ("rest", (net,), told[2][1:])]), (1,))
        self.assertIs(sheet_holds(sheet("trap", (greatest_net(),))), True)

    def test_sheets_of_20_houses(self):
        rng = random.Random(781)
        table = great_table_net(rng)
        told = sheet("share", (table, 20))
        self.assertIs(sheet_holds(told), True)
        self.assertEqual(wrong_sheets((told, sheet("prices", (table,)))), ())
        rounds = net_of([1] * 20, [("hear", (house + 1) % 20) for house in range(20)])
        told = sheet("fewest", (rounds, (0,) * 20))
        self.assertEqual(len(told[2][0]), 1)
        self.assertIs(sheet_holds(told), True)

    def test_vast_values(self):
        deep = ()
        for _ in range(45):
            deep = (deep,)
        for value in (deep, (deep,) * 2000, ("rest", deep, deep), ("rest", (greatest_net(),), (deep,) * 2000),
                      ((1, 2, 3),) * 25000,
                      ("swing", (great_table_net(random.Random(782)),), (10 ** 399,) * 20000), ("trap", (10 ** 399,), ())):
            self.assertIs(sheet_holds(value), False)
            self.assertIs(is_circuit(value), False)
            self.assertEqual(wrong_sheets((value,) * 3), (0, 1, 2))

    def test_a_house_of_20000_rounds(self):
        desk = Desk()
        desk.load(net_text(ring(False)), 9)
        self.assertEqual(desk.say("verdict"), "rest " + ",".join(["1000"] * 20) + " in 180000")
        for _ in range(18):
            desk.say("wait 10000")
        self.assertEqual(desk.say("verdict"), "rest " + ",".join(["1000"] * 20) + " in 0")
        self.assertEqual(len(desk.house), 18)
        for _ in range(17):
            desk.say("undo")
        # Behind 1111 rounds the first house shows 56 or more.
        self.assertEqual((desk.say("known 0"), desk.say("known 19")), ("56 to 1000", "55 to 1000"))
        self.assertEqual(desk.say("fix 0 1000"), "ok")
        self.assertEqual(desk.say("verdict"), "rest " + ",".join(["1000"] * 20) + " in 180")

    def test_many_deeds(self):
        house = House(net_text(ring(False)), 2)
        for _ in range(2000):
            house.do(("wait", 1))
        self.assertEqual((len(house), house.known()[0][0],
                          house.within(lambda own: [own.undo() for _ in range(2001)].count(True))), (2000, 50, 2000))
        self.assertEqual(len(house), 2000)

    def test_worked_nets(self):
        rng = random.Random(783)
        lengths = tuple(sorted((u, v,
                                rng.randint(1,
                                            1000)) for u in range(20) for v in rng.sample([at for at in range(20) if at != u], 12)))
        net = distance_net(20, lengths, 3, 1000)
        self.assertIs(is_net(net), True)
        self.assertEqual(last_ends(net), (distances(20, lengths, 3, 1000),) * 2)
        away = tuple(entry[:2] + (1,) for entry in lengths if 3 not in entry[:2])
        self.assertEqual(distances(20, away, 3, 1000), (1000,) * 3 + (0,) + (1000,) * 16)
        self.assertEqual(slow_rounds(20, away, 3, 1000), 1000)
        links = tuple((u, v) for u in range(20) for v in range(u + 1, 20) if v - u <= 6 or u + 20 - v <= 6)
        self.assertEqual(standing_lots(20, links, (6,) * 20), ((), tuple(range(20))))
        self.assertEqual(won(20, links, (1,) * 20, (4,)), tuple(range(20)))
        gates = tuple(("and" if at % 2 else "or", tuple(rng.randrange(20) for _ in range(12))) for at in range(19)) + (("in", 1),)
        self.assertIs(is_circuit(gates), True)
        self.assertEqual(len(known_gates(gates)), 20)
        offers = tuple((1, 1, 0, 1000, (at - 1,) if at else (19,)) for at in range(20))
        self.assertEqual(price_ends(offers), ((1000,) * 20,) * 2)
        offers = tuple((rng.randint(0, 1000), 9, 0, 1000, tuple(sorted(rng.sample(range(20), 12)))) for _ in range(20))
        self.assertIs(is_net(price_net(offers)), True)
        self.assertEqual(len(price_ends(offers)), 2)


if __name__ == "__main__":
    unittest.main()
