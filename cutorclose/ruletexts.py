"""Rules written as lines."""

from cutorclose.rulekinds import need_any_rule


def rule_line(rule):
    """The line of a rule: the word rule, and the four numbers of each place."""
    need_any_rule(rule)
    words = [quotient_word(number) for four in rule for number in four]
    return " ".join(["rule", *words])


def quotient_word(one):
    """A quotient as a word: its top, and its bottom behind a / if this is not 1."""
    top, bottom = one
    return str(top) if bottom == 1 else f"{top}/{bottom}"
