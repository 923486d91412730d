"""Keys and rules: what a rule fits, and what a list of rules says of a key at a switch."""

ALL_SWITCHES = -1
LAST_KEY = 65535


def is_key(number):
    return 0 <= number <= LAST_KEY


def rule_fits(rule, x, key):
    return rule[0] in (ALL_SWITCHES, x) and rule[1] <= key <= rule[2]


def rules_say(rules, x, key):
    for rule in rules:
        if rule_fits(rule, x, key):
            return rule[3]
    return 0
