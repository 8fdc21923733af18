"""Nets and rules of which only the first tokens have come, and what may come next.

A draft is only given tokens that may come next. What may is told as a triple: the words, then the least and the
greatest number (the least one being greater if no number may).
"""

from newsbehind.basics import MOST_BRANCHES, MOST_HOUSES, MOST_LEVELS, MOST_NUMBER, MOST_RULES
from newsbehind.ruleforms import LIST_WORDS, NUMBER_COUNTS, least_number, made_rule

# What comes next in a rule.
A_RULE = "a rule"
A_HOUSE = "the house heard"
A_NUMBER = "a number, or the inner rules"
AN_END = "the end of the inner rules, or a further one"

# What comes one behind another in the entry of a house.
STEPS = ("house", "its number", "top", "its top", ":", "its rule", ";")


def rules_wanted(word):
    """How many inner rules must stand behind a word."""
    return 3 if word == "middle" else 1


class Part:
    """A rule with inner rules, as far as it has come."""

    def __init__(self, word):
        self.word = word
        self.numbers = []
        self.rules = []

    def made(self):
        """The rule, once all of it has come."""
        return made_rule(self.word, tuple(self.numbers), tuple(self.rules))


class RuleDraft:
    """A rule, as far as its tokens have come."""

    def __init__(self):
        self.place = A_RULE
        self.parts = []
        self.begun = 0
        # Rules that are not begun but must come: so many have their room kept.
        self.owed = 1
        self.heard = []
        self.rule = None

    def room(self):
        """How many rules can still be begun besides those that must come."""
        return MOST_RULES - self.begun - self.owed

    def follow(self):
        """What may come next."""
        if self.place == A_RULE:
            return self.first_words(), 0, MOST_NUMBER
        if self.place == A_HOUSE:
            return (), 0, MOST_HOUSES - 1
        if self.place == A_NUMBER:
            return self.behind_word()
        return self.behind_inner(), 1, 0

    def first_words(self):
        """The words with which a rule may begin here."""
        words = []
        if len(self.heard) < MOST_BRANCHES:
            words.append("of")
        if len(self.parts) + 2 <= MOST_LEVELS:
            words.extend([word for word in NUMBER_COUNTS if rules_wanted(word) <= self.room()])
        return tuple(words)

    def behind_word(self):
        """What may come behind a word and the numbers so far."""
        part = self.parts[-1]
        fewest, most = NUMBER_COUNTS[part.word]
        words = ("(",) if len(part.numbers) >= fewest else ()
        if len(part.numbers) == most:
            return words, 1, 0
        return words, least_number(part.word, part.numbers), MOST_NUMBER

    def behind_inner(self):
        """The signs that may come behind an inner rule."""
        part = self.parts[-1]
        if part.word in LIST_WORDS:
            return (")", ",") if self.room() > 0 else (")",)
        return (")",) if len(part.rules) == rules_wanted(part.word) else (",",)

    def take(self, token):
        """Goes on with a token that may come next."""
        if self.place == A_RULE:
            self.begin(token)
        elif self.place == A_HOUSE:
            self.heard.append(int(token))
            self.end(("hear", int(token)))
        elif self.place == A_NUMBER:
            self.take_behind_word(token)
        elif token == ",":
            self.begin_further()
        else:
            part = self.parts.pop()
            self.end(part.made())

    def begin(self, token):
        """Begins a rule that was owed."""
        self.begun += 1
        self.owed -= 1
        if token == "of":
            self.place = A_HOUSE
        elif token in NUMBER_COUNTS:
            self.parts.append(Part(token))
            self.owed += rules_wanted(token)
            self.place = A_NUMBER
        else:
            self.end(("is", int(token)))

    def take_behind_word(self, token):
        """Goes on with a number, or to the inner rules."""
        if token == "(":
            self.place = A_RULE
        else:
            self.parts[-1].numbers.append(int(token))

    def begin_further(self):
        """Goes on to one more inner rule."""
        # The three rules of "middle" are owed from its word on.
        if self.parts[-1].word in LIST_WORDS:
            self.owed += 1
        self.place = A_RULE

    def end(self, rule):
        """Puts a rule, now whole, to where it belongs."""
        if self.parts:
            self.parts[-1].rules.append(rule)
            self.place = AN_END
        else:
            self.rule = rule


class NetDraft:
    """A net, as far as its tokens have come."""

    def __init__(self):
        self.step = 0
        self.tops = []
        self.rules = []
        self.farthest = 0
        self.draft = RuleDraft()

    def is_whole(self):
        """Whether the tokens are those of a net."""
        return self.step == 0 and self.farthest < len(self.rules)

    def made(self):
        """The net, if it is whole."""
        return tuple(self.tops), tuple(self.rules)

    def follow(self):
        """What may come next."""
        step = STEPS[self.step]
        if step == "its number":
            return (), len(self.rules), len(self.rules)
        if step == "its top":
            return (), 0, MOST_NUMBER
        if step == "its rule":
            return self.draft.follow()
        if step == "house" and len(self.rules) == MOST_HOUSES:
            return (), 1, 0
        return (step,), 1, 0

    def take(self, token):
        """Goes on with a token that may come next."""
        step = STEPS[self.step]
        if step == "its top":
            self.tops.append(int(token))
        elif step == "its rule":
            self.draft.take(token)
            if self.draft.rule is None:
                return
        elif step == ";":
            self.end_entry()
        self.step = (self.step + 1) % len(STEPS)

    def end_entry(self):
        """Keeps the rule of a house whose entry is whole."""
        self.rules.append(self.draft.rule)
        self.farthest = max([self.farthest] + self.draft.heard)
        self.draft = RuleDraft()
