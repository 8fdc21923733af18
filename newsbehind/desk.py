"""Desks: a house that is asked and led on by commands, which are texts."""

from newsbehind.errors import InvalidCommand
from newsbehind.houses import House
from newsbehind.tokens import number_of

# How many numbers stand behind the word of each command.
NUMBERS_BEHIND = {"wait": 1, "seen": 3, "fix": 2, "known": 1, "verdict": 0, "undo": 0}

MOST_DIGITS = 5


def _read(command):
    """The word and the numbers of any value that is a command."""
    if not isinstance(command, str):
        raise InvalidCommand()
    words = command.split(" ")
    word = words[0]
    numbers = tuple([number_of(part, MOST_DIGITS) for part in words[1:]])
    if word not in NUMBERS_BEHIND or len(numbers) != NUMBERS_BEHIND[word] or -1 in numbers:
        raise InvalidCommand()
    return word, numbers


def _change_of(word, numbers):
    """The change for which a command stands."""
    if word == "fix":
        house, worth = numbers
        return "rule", house, ("is", worth)
    return (word,) + numbers


def _state_text(state):
    return ",".join([str(worth) for worth in state])


def _known_text(ends, house):
    lows, highs = ends
    if house >= len(lows):
        raise InvalidCommand()
    return f"{lows[house]} to {highs[house]}"


def _verdict_text(verdict):
    if verdict[0] == "rest":
        _, state, beats = verdict
        return f"rest {_state_text(state)} in {beats}"
    lows, highs = verdict[1]
    return f"toggle {_state_text(lows)} and {_state_text(highs)}"


class Desk:
    """A place for one house."""

    def __init__(self):
        self.house = None

    def load(self, text, d):
        """Begins with a new house."""
        self.house = House(text, d)
        return "ok"

    def say(self, command):
        """Does a command and tells what came of it."""
        word, numbers = _read(command)
        # A house has a length, so it may count as false; it is asked for None.
        if self.house is None:
            raise InvalidCommand()
        if word == "known":
            return _known_text(self.house.known(), numbers[0])
        if word == "verdict":
            return _verdict_text(self.house.verdict())
        if word == "undo":
            return "ok" if self.house.undo() else "nothing"
        self.house.do(_change_of(word, numbers))
        return "ok"
