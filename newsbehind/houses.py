"""Houses of nets: lives that are led on by deeds, which can be undone."""

from newsbehind.basics import LEAST_OLD, MOST_OLD, is_integer_in
from newsbehind.errors import InvalidQuestion
from newsbehind.living import beats_left, begun, known, life_rounds
from newsbehind.livingchanges import changed
from newsbehind.reading import read_net


class House:
    """The life of a net that is read from a text."""

    def __init__(self, text, d):
        own_net = read_net(text)
        if not is_integer_in(d, LEAST_OLD, MOST_OLD):
            raise InvalidQuestion(2)
        self.now = begun(own_net, d)
        # The lives ahead of each deed that can be undone.
        self.ahead = []

    def __len__(self):
        return len(self.ahead)

    def life(self):
        """The life as it is now."""
        return self.now

    def net(self):
        """Its net."""
        return self.now[0]

    def known(self):
        """The ends within which all lies that was shown in the last d beats."""
        return known(self.now)

    def do(self, change):
        """Leads the life on by a change."""
        later = changed(self.now, change)
        self.ahead.append(self.now)
        self.now = later

    def undo(self):
        """Undoes the last deed; whether there was one."""
        if not self.ahead:
            return False
        self.now = self.ahead.pop()
        return True

    def within(self, work):
        """What work returns of this house; behind it the house is as it was."""
        now = self.now
        ahead = list(self.ahead)
        try:
            return work(self)
        finally:
            self.now, self.ahead = now, ahead

    def verdict(self):
        """Whether the life comes to rest, to which state and in how many beats, or between which ends it can go on."""
        rounds = life_rounds(self.now)
        beats = beats_left(self.now, rounds)
        if beats is None:
            return "toggle", rounds[-1]
        return "rest", rounds[-1][0], beats
