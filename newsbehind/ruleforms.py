"""The forms of rules: which words, numbers and inner rules they are made of."""

LEAF_WORDS = ("is", "hear")
LIST_WORDS = ("least", "most", "add")

# How many numbers stand ahead of the inner rules: at least, and at most.
NUMBER_COUNTS = {
    "least": (0, 0),
    "most": (0, 0),
    "add": (0, 0),
    "middle": (0, 0),
    "times": (1, 1),
    "part": (1, 1),
    "clip": (2, 2),
    "from": (1, 1),
    "bar": (3, 3),
    "row": (1, 64),
}


def least_number(word, numbers):
    """The least number that may stand behind these ones, the first ones of a rule with this word."""
    if word == "part":
        return 1
    if word == "clip" and len(numbers) == 1:
        return numbers[0]
    return 0


def inner_rules(rule):
    """The rules that stand directly in a rule, from left to right."""
    word = rule[0]
    if word in LEAF_WORDS:
        return ()
    if word in LIST_WORDS:
        return rule[1]
    if word == "middle":
        return rule[1:]
    return rule[-1:]


def own_numbers(rule):
    """The numbers that stand in a rule itself, ahead of its inner rules."""
    word = rule[0]
    if word in LIST_WORDS or word == "middle":
        return ()
    if word == "row":
        return rule[1]
    if word in LEAF_WORDS:
        return rule[1:]
    return rule[1:-1]


def made_rule(word, numbers, rules):
    """The rule with this word, these numbers and, in it, these rules: tuples."""
    if word in LIST_WORDS:
        return (word, rules)
    if word == "row":
        return (word, numbers) + rules
    return (word,) + numbers + rules


def renamed_rule(rule, names):
    """The rule that hears house names[j] wherever this one hears house j."""
    word = rule[0]
    if word == "hear":
        return (word, names[rule[1]])
    parts = tuple([renamed_rule(part, names) for part in inner_rules(rule)])
    return made_rule(word, own_numbers(rule), parts)
