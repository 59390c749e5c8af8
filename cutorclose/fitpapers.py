"""Papers of whether a rule fits."""

from cutorclose.fitting import clash_of
from cutorclose.holdings import first_untied, tied_parts
from cutorclose.rulekinds import need_rule


def fit_paper(book, rule):
    """A paper of the rule: of its parts, if there is one, otherwise ("all",) or a clash."""
    need_rule(book, rule)
    if first_untied(book, rule) is None:
        return ("parts", tied_parts(book, rule))
    clash = clash_of(book, rule)
    return ("all",) if clash is None else clash
