"""Rules judged by all sets of speakers that wake at once."""

from oneair.playing import play
from oneair.rules import check_numbers, check_rule, sets_of


def worst(rule, many, most):
    """Tell the first set that goes on for ever, or the first by which it takes longest."""
    check_numbers(many, most)
    check_rule(rule, many)
    greatest = 0
    slowest = ()
    for group in sets_of(many, 1, most):
        moments = moments_of(rule, many, group)
        if moments is None:
            return "forever", group
        if moments > greatest:
            greatest = moments
            slowest = group
    return "heard", greatest, slowest


def against(rule, other, many, most):
    """Tell the first set by which the one rule is sooner, and the first by which the other one is."""
    check_numbers(many, most)
    check_rule(rule, many)
    check_rule(other, many)
    first = None
    first_of_other = None
    for group in sets_of(many, 1, most):
        moments = moments_of(rule, many, group)
        moments_of_other = moments_of(other, many, group)
        if first is None and is_sooner(moments, moments_of_other):
            first = group
        if first_of_other is None and is_sooner(moments_of_other, moments):
            first_of_other = group
    return first, first_of_other


def moments_of(rule, many, group):
    """How many moments it takes until a set is heard, or None if it goes on for ever."""
    told = play(rule, many, {number: 0 for number in group})
    if told[0] == "forever":
        return None
    return len(told[1])


def is_sooner(moments, others):
    """Whether the first are fewer than the second; None is more than any number."""
    if moments is None:
        return False
    return others is None or moments < others
