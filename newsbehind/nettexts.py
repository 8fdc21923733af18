"""Writing nets as tokens and as texts."""

from newsbehind.ruleforms import inner_rules, own_numbers


def _rule_tokens(rule):
    numbers = [str(number) for number in own_numbers(rule)]
    if rule[0] == "is":
        return numbers
    if rule[0] == "hear":
        return ["of"] + numbers
    tokens = [rule[0]] + numbers + ["("]
    for at, part in enumerate(inner_rules(rule)):
        if at > 0:
            tokens.append(",")
        tokens.extend(_rule_tokens(part))
    return tokens + [")"]


def _entry_tokens(net, house):
    head = ["house", str(house), "top", str(net[0][house]), ":"]
    return head + _rule_tokens(net[1][house]) + [";"]


def net_tokens(net):
    """The tokens of a net."""
    tokens = []
    for house in range(len(net[0])):
        tokens.extend(_entry_tokens(net, house))
    return tuple(tokens)


def net_text(net):
    """A text with just the tokens of a net: a line for each house."""
    lines = [" ".join(_entry_tokens(net, house)) + "\n" for house in range(len(net[0]))]
    return "".join(lines)
