"""Rules as texts."""

from oneair.errors import BadText
from oneair.rules import SHAPES, check_many, check_rule

MOST_FIGURES = 3


def written(rule, many):
    """Write a rule: its word and parts, with one blank between."""
    check_many(many)
    check_rule(rule, many)
    if rule[0] == "rows":
        return " ".join(["rows", *rule[1]])
    return " ".join([str(part) for part in rule])


def read_rule(text, many):
    """Read a rule as it is written."""
    check_many(many)
    rule = rule_of(text.split(" "))
    check_rule(rule, many)
    return rule


def rule_of(words):
    """The rule that these words tell, whether it can be or not."""
    if words[0] == "rows":
        return ("rows", tuple(words[1:]))
    if (words[0], len(words)) not in SHAPES:
        raise BadText("another first word, or count of words")
    if words[0] == "waits":
        return ("waits", base_of(words[1]))
    return tuple(words)


def base_of(figures):
    """The base that a word tells."""
    if not is_number(figures):
        raise BadText("a base that is no number")
    return int(figures)


def is_number(figures):
    """Whether this is a number of one to three figures without a needless 0."""
    if not 1 <= len(figures) <= MOST_FIGURES:
        return False
    if len(figures) > 1 and figures[0] == "0":
        return False
    return all(figure in "0123456789" for figure in figures)
