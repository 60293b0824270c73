"""Rows of signs by which each is alone at some moment."""

from oneair.rules import check_many, check_numbers, check_rule, sets_of


def unheard(rows, most):
    """Tell the first set with a station that is alone nowhere, and the least such one, or None."""
    many = len(rows)
    check_numbers(many, most)
    check_rule(("rows", rows), many)
    for group in sets_of(many, 1, most):
        for number in group:
            if not is_alone(rows, group, number):
                return group, number
    return None


def is_alone(rows, group, number):
    """Whether this one of a set has a 1 somewhere at which all others in it have a 0."""
    for place in range(len(rows[number])):
        if [other for other in group if rows[other][place] == "1"] == [number]:
            return True
    return False


def two(many):
    """Tell the shortest rows by which of any two each is alone, and chains that show it."""
    check_many(many)
    if many == 1:
        return ("1",), []
    length = 1
    while len(middle_texts(length)) < many:
        length += 1
    return tuple(middle_texts(length)[:many]), chains_of(length - 1)


def middle_texts(length):
    """All texts of so many signs, rising, that have a 1 at half of their places, rounded down.

    As all have as many 1, of any two each has one where the other has none. They are the most
    such texts, as just one of them stands in each of the chains of so many signs.
    """
    texts = [""]
    for size in range(length):
        texts = [sign + text for sign in "01" for text in texts]
    return [text for text in texts if text.count("1") == length // 2]


def chains_of(length):
    """All texts of so many signs in chains, as few as can be."""
    chains = [[""]]
    for size in range(length):
        # A chain goes on behind its greatest text with a 1, the others make one with a 1 each.
        longer = [[text + "0" for text in chain] + [chain[-1] + "1"] for chain in chains]
        shorter = [[text + "1" for text in chain[:-1]] for chain in chains if len(chain) > 1]
        chains = longer + shorter
    return chains
