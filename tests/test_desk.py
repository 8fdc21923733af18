"""[78]: desks, and what can be said to them."""

import unittest

from newsbehind.desk import Desk
from newsbehind.errors import InvalidCommand, InvalidQuestion, InvalidText, NewsError, Refused
from newsbehind.houses import House
from newsbehind.living import begun
from newsbehind.nets import net_of
from sampling import ODD_VALUES

TEXT = "house 0 top 8 : part 2 ( of 1 ) ; house 1 top 8 : of 0 ;"
NET = net_of([8, 8], [("part", 2, ("hear", 1)), ("hear", 0)])
BOTH = "house 0 top 2 : row 0 2 1 ( of 0 ) ;"
# Each command that can be done with the house of TEXT.
COMMANDS = ("wait 5", "seen 0 0 4", "fix 1 3", "known 1", "verdict", "undo")


def loaded():
    desk = Desk()
    desk.load(TEXT, 2)
    return desk


class LoadTest(unittest.TestCase):
    def test_by_hand(self):
        desk = Desk()
        self.assertIs(desk.house, None)
        self.assertEqual(desk.load(TEXT, 2), "ok")
        self.assertIsInstance(desk.house, House)
        self.assertEqual(desk.house.life(), begun(NET, 2))
        self.assertEqual(desk.load(text="house 0 top 3 : 2 ;", d=9), "ok")
        self.assertEqual(desk.house.life(), begun(net_of([3], [("is", 2)]), 9))

    def test_an_error_keeps_the_house_that_stood(self):
        for error, at, text, d in ((InvalidText, 0, "", 2), (InvalidText, 0, None, 2), (InvalidText, 1, "house", 2),
                                   (InvalidQuestion, 2, TEXT, 1),
                                   (InvalidQuestion, 2, TEXT, True), (Refused, 0, BOTH, 2), (InvalidQuestion, 2, BOTH, 10)):
            desk = Desk()
            with self.assertRaises(error) as caught:
                desk.load(text, d)
            self.assertEqual((caught.exception.at, desk.house), (at, None))
            desk = loaded()
            desk.say("wait 5")
            house = desk.house
            with self.assertRaises(error):
                desk.load(text, d)
            self.assertIs(desk.house, house)
            self.assertEqual((desk.say("known 0"), len(house)), ("0 to 4", 1))

    def test_load_again_begins_anew(self):
        desk = loaded()
        house = desk.house
        desk.say("wait 5")
        desk.load(TEXT, 2)
        self.assertIsNot(desk.house, house)
        self.assertEqual((desk.say("verdict"), desk.say("undo")), ("rest 0,0 in 16", "nothing"))
        self.assertEqual(len(house), 1)

    def test_desks_do_not_share_anything(self):
        one, other = loaded(), loaded()
        one.say("wait 5")
        self.assertEqual((one.say("known 0"), other.say("known 0")), ("0 to 4", "0 to 8"))
        self.assertFalse(one == other)
        for odd in ODD_VALUES:
            self.assertFalse(one == odd)


class SayTest(unittest.TestCase):
    def refused(self, command, desk=None):
        desk = desk or loaded()
        house = desk.house
        with self.assertRaises(InvalidCommand):
            desk.say(command)
        self.assertIs(desk.house, house)
        if house is not None:
            self.assertEqual((house.life(), len(house)), (begun(NET, 2), 0))

    def test_each_command(self):
        desk = loaded()
        for command, told in (("verdict", "rest 0,0 in 16"), ("wait 5", "ok"), ("known 0", "0 to 4"), ("known 1", "0 to 4"),
                              ("verdict", "rest 0,0 in 11"),
                              ("seen 0 0 1", "ok"), ("known 0", "0 to 2"), ("known 1", "0 to 4"),
                              ("verdict", "rest 0,0 in 10"), ("undo", "ok"),
                              ("known 0", "0 to 4"), ("fix 1 3", "ok"), ("verdict", "rest 1,3 in 4"), ("wait 10000", "ok"),
                              ("verdict", "rest 1,3 in 0"),
                              ("undo", "ok"), ("undo", "ok"), ("undo", "ok"), ("undo", "nothing"), ("undo", "nothing"),
                              ("known 1", "0 to 8")):
            self.assertEqual(desk.say(command), told)
        self.assertEqual(desk.house.life(), begun(NET, 2))

    def test_the_text_of_a_toggle(self):
        desk = Desk()
        desk.load("house 0 top 3 : from 3 ( of 1 ) ; house 1 top 3 : most ( 1 , of 0 ) ;", 2)
        self.assertEqual(desk.say("verdict"), "toggle 1,1 and 2,2")
        desk.load("house 0 top 12 : of 0 ;", 2)
        self.assertEqual(desk.say("verdict"), "toggle 0 and 12")
        self.assertEqual(desk.say("seen 0 7 10"), "ok")
        self.assertEqual((desk.say("verdict"), desk.say("known 0")), ("toggle 7 and 10", "7 to 10"))
        self.assertEqual((desk.say("seen 0 10 99999"), desk.say("verdict")), ("ok", "rest 10 in 0"))

    def test_what_the_commands_change(self):
        for command, change in (("wait 7", ("wait", 7)), ("wait 0", ("wait", 0)), ("seen 1 2 3", ("seen", 1, 2, 3)),
                                ("fix 0 1000", ("rule", 0, ("is", 1000)))):
            desk, house = loaded(), House(TEXT, 2)
            self.assertEqual(desk.say(command), "ok")
            house.do(change)
            self.assertEqual((desk.house.life(), len(desk.house)), (house.life(), 1))

    def test_commands_that_cannot_be_done(self):
        for command in ("wait 10001", "wait 99999", "seen 2 0 8", "seen 0 9 10", "seen 0 5 4", "fix 2 0", "fix 0 1001",
                        "fix 99999 99999", "fix 0 99999"):
            desk = loaded()
            house = desk.house
            with self.assertRaises(InvalidQuestion) as caught:
                desk.say(command)
            self.assertEqual((caught.exception.at, len(house), house.life()), (1, 0, begun(NET, 2)))
            self.assertIs(desk.house, house)

    def test_blanks(self):
        for command in COMMANDS:
            for wrong in (command + " ", " " + command, command.replace(" ", "  "), command + "\n", "\n" + command,
                          command.replace(" ", "\n"),
                          command + " \n", command + "\t", command.replace(" ", "\t"), command + "\r", command + "\x0b",
                          command + "\u00a0",
                          command.replace(" ", "\u2003"), command + "\n" + command):
                if wrong != command:
                    self.refused(wrong)
        for wrong in ("", " ", "  ", "\n", "#", "undo # one", "undo#", "undo;", "wait 5;", "wait 5 # five"):
            self.refused(wrong)

    def test_numbers(self):
        for wrong in ("05", "00", "000", "100000", "123456", "+5", "-5", "-0", "5.", "5.0", "0x5", "1_0", "five", "\u0665",
                      "\uff15", "5\u0665", "\u00b2",
                      "\u0967", "5a", "a", "(5)", "5,", "''", "1e1", "99999999999999999999"):
            for command in ("wait {}", "seen {} 0 8", "seen 0 {} 8", "seen 0 0 {}", "fix {} 0", "fix 0 {}", "known {}"):
                self.refused(command.format(wrong))
        self.assertEqual(loaded().say("wait 0"), "ok")
        with self.assertRaises(InvalidQuestion):
            loaded().say("wait 99999")

    def test_counts_of_numbers(self):
        for command in ("wait", "wait 1 2", "seen", "seen 0", "seen 0 1", "seen 0 1 2 3", "fix", "fix 1", "fix 0 1 2",
                        "known", "known 0 1",
                        "verdict 0", "undo 1", "undo 0 0", "wait wait", "5 wait", "5"):
            self.refused(command)

    def test_words(self):
        for command in COMMANDS:
            word = command.split(" ")[0]
            for wrong in (word.upper(), word.capitalize(), word + "s", word[:-1], "'" + word + "'", word + "_",
                          "\ufeff" + word):
                self.refused(command.replace(word, wrong))
        for wrong in ("load", "load x 2", "rule 0 3", "house 3 0", "do", "life", "net", "len", "rest", "toggle", "ok"):
            self.refused(wrong)

    def test_no_strings(self):
        for value in ODD_VALUES + (b"undo", ["undo"], ("wait", 5), ("undo",), {"undo": 1}):
            self.refused(value)

    def test_known_of_a_house_that_is_none(self):
        for house in 2, 3, 20, 99999:
            self.refused(f"known {house}")
        self.assertEqual(loaded().say("known 1"), "0 to 8")

    def test_no_house_yet(self):
        for command in COMMANDS + ("known 9", "wait 10001", "nothing", ""):
            self.refused(command, Desk())
        desk = Desk()
        with self.assertRaises(InvalidCommand):
            desk.say("undo")
        desk.load(TEXT, 2)
        self.assertEqual(desk.say("undo"), "nothing")

    def test_the_error_has_no_number(self):
        with self.assertRaises(NewsError) as caught:
            loaded().say("go")
        self.assertIs(type(caught.exception), InvalidCommand)
        self.assertFalse(hasattr(caught.exception, "at"))


if __name__ == "__main__":
    unittest.main()
