"""Numbers of stations and of speakers, rules, sets and digits, as all other files need them."""

from oneair.errors import BadNumber, BadRule

MOST_STATIONS = 8
MOST_SIGNS = 12
LEAST_BASE = 2
MOST_BASE = 4

# Each word of a rule, and how many parts a rule has with it.
SHAPES = (("turns", 1), ("rows", 2), ("tree", 3), ("waits", 2))


def is_whole(number, least, most):
    """Whether this is a whole number from the least to the most."""
    # To Python True is 1, to the document it is no number.
    if isinstance(number, bool) or not isinstance(number, int):
        return False
    return least <= number <= most


def check_many(many):
    """Refuse what is no number of stations."""
    if not is_whole(many, 1, MOST_STATIONS):
        raise BadNumber("no number of stations")


def check_numbers(many, most):
    """Refuse what is no number of stations, or no number of speakers among so many."""
    check_many(many)
    if not is_whole(most, 1, many):
        raise BadNumber("no number of speakers")


def check_rule(rule, many):
    """Refuse what is no rule for so many stations."""
    why = fault_of(rule, many)
    if why is not None:
        raise BadRule(why)


def fault_of(rule, many):
    """The first thing that is wrong with a rule, or None."""
    if not has_shape(rule, SHAPES):
        return "rule"
    if rule[0] == "rows" and not are_rows(rule[1], many):
        return "rows"
    if rule[0] == "tree" and rule[1] not in ("plain", "skips"):
        return "how"
    if rule[0] == "tree" and rule[2] not in ("waits", "joins"):
        return "late"
    if rule[0] == "waits" and not is_whole(rule[1], LEAST_BASE, MOST_BASE):
        return "base"
    return None


def has_shape(parts, shapes):
    """Whether these parts begin with one of the words, and are as many as go with it."""
    if not isinstance(parts, tuple) or len(parts) == 0:
        return False
    return (parts[0], len(parts)) in shapes


def are_rows(rows, many):
    """Whether these are rows of signs, one for each of so many stations."""
    if not isinstance(rows, tuple) or len(rows) != many:
        return False
    return all(is_row(row) and len(row) == len(rows[0]) for row in rows)


def is_row(row):
    """Whether this is a text of one to twelve signs."""
    if not isinstance(row, str) or not 1 <= len(row) <= MOST_SIGNS:
        return False
    return all(sign in ("0", "1") for sign in row)


def sets_of(many, least, most):
    """All sets of at least and at most so many of the stations, in their order."""
    told = []
    groups = [()]
    for size in range(most + 1):
        if size >= least:
            told.extend(groups)
        # Each one of them with a greater station: so they stay in the order of tuples.
        groups = [(*group, number) for group in groups for number in range(many)
                  if number > max(group, default=-1)]
    return told


def digits_of(number, base, many):
    """A number's digits, the first one first.

    They are as many as the greatest of so many stations' numbers has.
    """
    digits = [number % base]
    greatest = (many - 1) // base
    while greatest > 0:
        number = number // base
        digits.append(number % base)
        greatest = greatest // base
    return digits[::-1]
