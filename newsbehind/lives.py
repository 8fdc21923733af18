"""Lives led on by change after change."""

from newsbehind.errors import InvalidQuestion
from newsbehind.living import beats_left, known_of, life_rounds
from newsbehind.livingchanges import changed, life_behind


def lived(life, changes):
    """The life behind all changes of a list or tuple, one after another."""
    for at, change in enumerate(changes):
        life = life_behind(life, change)
        if life is None:
            raise InvalidQuestion(at)
    return life


def diary(life, changes):
    """For a life and behind each change a pair of what is known and in how many beats it rests."""
    rounds = life_rounds(life)
    entries = [(known_of(life, rounds), beats_left(life, rounds))]
    for change in changes:
        life = changed(life, change)
        # While beats go by alone, the ends of a life stay, and so do their rounds.
        if change[0] != "wait":
            rounds = life_rounds(life)
        entries.append((known_of(life, rounds), beats_left(life, rounds)))
    return tuple(entries)
