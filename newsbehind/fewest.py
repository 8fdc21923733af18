"""The fewest things that have one in common with each of some lots.

Things are numbered from 0, and some of them are one number: the sum of 2 to the power of each. What asks for lots has
a method: lot_without(chosen), the number of a lot that has nothing of what is chosen, 0 if there is none.
"""


def things_in(number):
    """The things that a number tells, ascending."""
    return [thing for thing in range(number.bit_length()) if (number >> thing) & 1]


def _how_many(number):
    """How many things a number tells."""
    return f"{number:b}".count("1")


def number_of(things):
    """The number that tells these things."""
    number = 0
    for thing in things:
        number |= 1 << thing
    return number


class NoMore:
    """Asks for no lots besides those known."""

    def lot_without(self, chosen):
        """There is none."""
        return 0


class Choice:
    """Looks for things such that each lot has one of them, the lots being asked for one by one."""

    def __init__(self, known, asked):
        self.known = list(known)
        self.asked = asked

    def lots_missed(self, chosen):
        """Known lots that have nothing of what is chosen, all of them or, if there are none, one that is asked for."""
        missed = [lot for lot in self.known if not lot & chosen]
        if not missed:
            lot = self.asked.lot_without(chosen)
            if lot:
                self.known.append(lot)
                missed.append(lot)
        return missed

    def with_more(self, chosen, barred, room):
        """What is chosen and at most so many things more, nothing of what is barred; None if nothing does."""
        missed = self.lots_missed(chosen)
        if not missed:
            return chosen
        free = sorted([(_how_many(lot & ~barred), lot & ~barred) for lot in missed])
        if free[0][0] == 0 or _lots_apart(free) > room:
            return None
        for thing in things_in(free[0][1]):
            found = self.with_more(chosen | 1 << thing, barred, room - 1)
            if found is not None:
                return found
            barred |= 1 << thing
        return None

    def fewest(self):
        """As few things as any."""
        room = 0
        found = self.with_more(0, 0, room)
        while found is None:
            room += 1
            found = self.with_more(0, 0, room)
        return found


def _lots_apart(counted):
    """How many of these lots, taken in order, have nothing in common with those taken before; each wants a thing."""
    many = 0
    taken = 0
    for _, lot in counted:
        if not lot & taken:
            many += 1
            taken |= lot
    return many
