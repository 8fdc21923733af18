"""[73] to [75]: houses of nets, their deeds and verdicts; [80]: what they know."""

import random
import unittest

from newsbehind.beats import shown
from newsbehind.errors import InvalidCommand, InvalidQuestion, InvalidText, Refused
from newsbehind.houses import House
from newsbehind.living import begun, is_life, known, rests_in
from newsbehind.livingchanges import changed
from newsbehind.nets import net_of
from newsbehind.nettexts import net_text
from newsbehind.resting import rests_always, the_rest
from newsbehind.toggles import toggle_run
from sampling import ODD_VALUES, drawn_lateness, drawn_past, drawn_run, one_way, small_net
from test_livingchanges import drawn_change, drawn_rule
from test_traps import within
from test_values import is_of_tuples

TEXT = "house 0 top 8 : part 2 ( of 1 ) ; house 1 top 8 : of 0 ;"
NET = net_of([8, 8], [("part", 2, ("hear", 1)), ("hear", 0)])
BOTH = "house 0 top 2 : 1 ; house 1 top 2 : row 0 2 1 ( of 0 ) ;"
RISES = "house 0 top 3 : most ( 1 , of 1 ) ; house 1 top 3 : clip 0 2 ( of 0 ) ;"


def drawn_house(rng):
    return House(net_text(one_way(rng, small_net(rng, houses=rng.choice((1, 2, 3))))), rng.choice((2, 3, 9)))


class HouseTest(unittest.TestCase):
    def refused(self, error, at, text, d):
        with self.assertRaises(error) as caught:
            House(text, d)
        self.assertEqual(caught.exception.at, at)

    def test_by_hand(self):
        house = House(TEXT, 2)
        self.assertEqual((house.life(), house.net(), house.known()), (begun(NET, 2), NET, ((0, 0), (8, 8))))
        self.assertEqual((len(house), house.undo()), (0, False))
        self.assertEqual(House(text=TEXT + "# more\n", d=9).life(), begun(NET, 9))

    def test_texts(self):
        self.refused(InvalidText, 0, "hous", 2)
        self.refused(InvalidText, 6, "house 0 top 3 : of ; house", 2)
        self.refused(InvalidText, 0, "", 2)
        for value in ODD_VALUES:
            self.refused(InvalidText, 0, value, 2)

    def test_d(self):
        for d in range(2, 10):
            self.assertEqual(House(TEXT, d).life(), begun(NET, d))
        for d in (1, 10, 0, -1, True, False, None, "2", 2.0, (2,), [2], 10 ** 399):
            self.refused(InvalidQuestion, 2, TEXT, d)

    def test_which_error_comes_first(self):
        self.refused(InvalidText, 0, None, None)
        self.refused(InvalidText, 9, BOTH[:30], 1)
        self.refused(InvalidQuestion, 2, BOTH, 1)
        self.refused(Refused, 1, BOTH, 2)
        self.refused(Refused, 0, BOTH.replace(" : 1 ;", " : row 1 0 1 ( of 1 ) ;"), 9)

    def test_what_is_told_is_of_tuples_and_told_again(self):
        rng = random.Random(731)
        for _ in range(30):
            house = drawn_house(rng)
            for _ in range(3):
                house.do(drawn_change(rng, house.life()))
            for ask in house.life, house.net, house.known, house.verdict:
                told = ask()
                self.assertIs(is_of_tuples(told), True)
                self.assertEqual(ask(), told)
            self.assertEqual(len(house), 3)

    def test_equal_to_nothing_else(self):
        house = House(TEXT, 2)
        for value in ODD_VALUES + (house.life(), NET, TEXT, House(TEXT, 2), len(house)):
            self.assertFalse(house == value)
            self.assertTrue(house != value)


class DeedsTest(unittest.TestCase):
    def test_by_hand(self):
        house = House(TEXT, 2)
        self.assertIs(house.do(("wait", 5)), None)
        self.assertEqual((house.known(), house.verdict(), len(house)), (((0, 0), (4, 4)), ("rest", (0, 0), 11), 1))
        self.assertIs(house.undo(), True)
        self.assertEqual((house.life(), len(house), house.undo()), (begun(NET, 2), 0, False))

    def test_what_cannot_be_made_changes_nothing(self):
        house = House(TEXT, 2)
        house.do(("wait", 5))
        life = house.life()
        for change in (("wait", 10001), ("seen", 0, 5, 8), ("rule", 2, ("is", 0)), ("house", 3, ("hear", 3)),
                       ["wait", 1]) + ODD_VALUES:
            with self.assertRaises(InvalidQuestion) as caught:
                house.do(change)
            self.assertEqual((caught.exception.at, house.life(), len(house)), (1, life, 1))

    def test_deeds_and_undoing_them(self):
        rng = random.Random(741)
        for _ in range(60):
            house = drawn_house(rng)
            lives = [house.life()]
            for _ in range(12):
                if rng.random() < 0.3:
                    self.assertIs(house.undo(), len(lives) > 1)
                    lives = lives[:-1] or lives
                else:
                    change = drawn_change(rng, house.life())
                    self.assertIs(house.do(change), None)
                    lives.append(changed(lives[-1], change))
                self.assertEqual((house.life(), len(house)), (lives[-1], len(lives) - 1))
                self.assertEqual((house.net(), house.known()), (lives[-1][0], known(lives[-1])))
            for _ in range(len(house)):
                self.assertIs(house.undo(), True)
            self.assertEqual((house.undo(), house.life()), (False, lives[0]))

    def test_waits_of_0_count(self):
        house = House(TEXT, 2)
        house.do(("wait", 0))
        self.assertEqual((len(house), house.life()), (1, begun(NET, 2)))

    def test_houses_do_not_share_anything(self):
        one, other = House(TEXT, 2), House(TEXT, 2)
        one.do(("wait", 5))
        self.assertEqual((len(other), other.life(), other.undo()), (0, begun(NET, 2), False))
        other.do(("rule", 0, ("is", 3)))
        self.assertEqual((one.net(), len(one)), (NET, 1))


class WithinTest(unittest.TestCase):
    def stays(self, house, work, told):
        life, many = house.life(), len(house)
        self.assertEqual(house.within(work), told)
        self.assertEqual((house.life(), len(house)), (life, many))

    def test_by_hand(self):
        def work(house):
            house.do(("wait", 5))
            house.do(("rule", 0, ("hear", 1)))
            return house.verdict(), len(house)

        house = House(TEXT, 2)
        self.stays(house, work, (("toggle", ((0, 0), (4, 4))), 2))
        house.do(("wait", 16))
        self.stays(house, work, (("rest", (0, 0), 0), 3))
        self.stays(house, len, 1)
        self.stays(house, House.known, ((0, 0), (0, 0)))
        self.stays(house, lambda own: own is house, True)
        self.stays(house, House.undo, True)
        self.stays(house, lambda own: None, None)

    def test_more_is_undone_than_was_done_before(self):
        house = House(TEXT, 2)
        for beats in 1, 2, 3:
            house.do(("wait", beats))
        self.stays(house, lambda own: [own.undo() for _ in range(5)], [True, True, True, False, False])
        self.stays(house, lambda own: (own.undo(), own.do(("wait", 9)), own.undo(), own.undo(), len(own)),
                   (True, None, True, True, 1))
        # All that was done before can still be undone.
        self.assertEqual([(house.life()[3], house.undo()) for _ in range(4)], [(6, True), (3, True), (1, True), (0, False)])

    def test_errors_are_passed_on(self):
        house = House(TEXT, 2)
        house.do(("wait", 5))
        life = house.life()

        def work(own):
            own.undo()
            own.do(("rule", 1, ("is", 4)))
            own.do(("wait", 10001))

        with self.assertRaises(InvalidQuestion) as caught:
            house.within(work)
        self.assertEqual((caught.exception.at, house.life(), len(house)), (1, life, 1))
        for error in KeyError("x"), StopIteration(), InvalidCommand(), RuntimeError(), GeneratorExit():
            def breaking(own):
                own.do(("wait", 1))
                raise error

            with self.assertRaises(type(error)) as caught:
                house.within(breaking)
            self.assertIs(caught.exception, error)
            self.assertEqual((house.life(), len(house)), (life, 1))

    def test_within_one_another(self):
        def inner(own):
            own.do(("wait", 100))
            return own.life()[3]

        def outer(own):
            own.do(("wait", 10))
            return own.within(inner), own.life()[3], own.undo(), own.undo(), own.life()[3]

        house = House(TEXT, 2)
        house.do(("wait", 1))
        self.stays(house, outer, (111, 11, True, True, 0))

    def test_what_it_returns_stays(self):
        house = House(TEXT, 2)
        diary = house.within(lambda own: [(own.do(("wait", 8)), own.known(), own.life()) for _ in range(2)])
        self.assertEqual([entry[1] for entry in diary], [((0, 0), (2, 2)), ((0, 0), (0, 0))])
        self.assertEqual(house.known(), ((0, 0), (8, 8)))
        self.assertIs(is_life(diary[1][2]), True)


class VerdictTest(unittest.TestCase):
    def test_by_hand(self):
        house = House(TEXT, 2)
        self.assertEqual(house.verdict(), ("rest", (0, 0), 16))
        house.do(("rule", 0, ("hear", 1)))
        self.assertEqual(house.verdict(), ("toggle", ((0, 0), (8, 8))))

    def test_wait_takes_beats_off(self):
        house = House(TEXT, 3)
        for beats, left in ((0, 24), (5, 19), (18, 1), (1, 0), (1, 0), (10000, 0)):
            house.do(("wait", beats))
            self.assertEqual(house.verdict(), ("rest", (0, 0), left))

    def test_a_net_that_does_not_rest_always_but_whose_life_does(self):
        house = House(RISES, 2)
        self.assertIs(rests_always(house.net()), False)
        self.assertEqual(house.verdict(), ("toggle", ((1, 1), (2, 2))))
        house.do(("seen", 0, 2, 3))
        self.assertEqual(house.verdict(), ("toggle", ((1, 1), (2, 2))))
        house.undo()
        house.do(("rule", 0, ("most", (("is", 2), ("hear", 1)))))
        house.do(("wait", 9))
        house.do(("rule", 0, ("most", (("is", 1), ("hear", 1)))))
        self.assertEqual((house.known(), house.verdict()), (((2, 2), (2, 2)), ("rest", (2, 2), 0)))
        self.assertIs(rests_always(house.net()), False)

    def test_after_a_rule_and_after_seen(self):
        house = House(TEXT, 2)
        house.do(("wait", 16))
        house.do(("rule", 1, ("is", 7)))
        self.assertEqual(house.verdict(), ("rest", (3, 7), 4))
        house.do(("seen", 1, 7, 7))
        self.assertEqual(house.verdict(), ("rest", (3, 7), 2))
        house.do(("seen", 0, 3, 9))
        self.assertEqual(house.verdict(), ("rest", (3, 7), 0))

    def test_it_fits_the_life(self):
        rng = random.Random(751)
        seen = {"rest": 0, "toggle": 0}
        for _ in range(150):
            house = drawn_house(rng)
            for _ in range(rng.choice((0, 1, 4))):
                house.do(drawn_change(rng, house.life()))
            net, d, ends, age = house.life()
            told = house.verdict()
            seen[told[0]] += 1
            if told[0] == "rest":
                self.assertEqual(told[2], rests_in(house.life()))
                self.assertEqual(known((net, d, ends, age + told[2])), (told[1],) * 2)
                if rests_always(net):
                    self.assertEqual(told[1], the_rest(net))
            else:
                self.assertIs(rests_in(house.life()), None)
                last = known((net, d, ends, 10 ** 6))
                self.assertEqual(told, ("toggle", last))
                self.assertTrue(within(last, ends))
                self.assertEqual(shown(net, d, toggle_run(net, d, last, 4)), last * 2)
        self.assertGreater(min(seen.values()), 20)


class DeedsAgainstRunsTest(unittest.TestCase):
    def seen_in(self, rng, house, states, lateness):
        """Something that may be done with a house, and the states and the lateness behind it."""
        net, d = house.life()[:2]
        word = rng.choice(("wait", "wait", "seen", "rule", "house") if len(net[0]) < 5 else ("wait", "seen", "rule"))
        if word == "wait":
            beats = rng.choice((0, 1, d, 2 * d + 1))
            for _ in range(beats):
                lateness = drawn_lateness(rng, net, d, lateness)
                states = states + shown(net, d, (states[-d:], (lateness,)))
            house.do((word, beats))
        elif word == "seen":
            at = rng.randrange(len(net[0]))
            worths = [state[at] for state in states[-d:]]
            house.do((word, at, rng.randint(0, min(worths)), max(worths) + rng.randint(0, 2)))
        elif word == "rule":
            house.do((word, rng.randrange(len(net[0])), drawn_rule(rng, len(net[0]))))
            lateness = None
        else:
            top = rng.choice((0, 2))
            house.do((word, top, drawn_rule(rng, len(net[0]) + 1)))
            states = tuple(state + (rng.randint(0, top),) for state in states)
            lateness = None
        return states, lateness

    def test_what_was_shown_lies_within_known(self):
        rng = random.Random(801)
        rested = 0
        for _ in range(120):
            house = drawn_house(rng)
            d = house.life()[1]
            states, lateness = drawn_past(rng, house.net(), d), None
            for _ in range(10):
                states, lateness = self.seen_in(rng, house, states, lateness)
                for state in states[-d:]:
                    self.assertTrue(within((state, state), house.known()))
            told = house.verdict()
            if told[0] == "rest":
                rested += 1
                run = drawn_run(rng, house.net(), d, told[2] + 5)
                self.assertEqual(set((states[-d:] + shown(house.net(), d, (states[-d:], run[1])))[told[2]:]), {told[1]})
        self.assertGreater(rested, 40)


if __name__ == "__main__":
    unittest.main()
