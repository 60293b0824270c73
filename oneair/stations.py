"""A station: it goes by its rule, its number and what it hears alone."""

from oneair.rules import check_many, check_rule, digits_of


class RowWay:
    """To speak at the places of a row that have a 1, again and again."""

    def __init__(self, row):
        self.row = row
        self.place = 0

    def wants(self, present):
        """Whether it would speak now."""
        return present and self.row[self.place] == "1"

    def goes_on(self, spoke, word):
        """To the next moment."""
        self.place = (self.place + 1) % len(self.row)

    def standing(self):
        """All by which it goes on."""
        return (self.place,)


class WaitWay:
    """To speak at once, and behind noise after as many moments as digits tell."""

    def __init__(self, digits):
        self.digits = digits
        self.place = 0
        self.left = 0

    def wants(self, present):
        """Whether it would speak now."""
        return present and self.left == 0

    def goes_on(self, spoke, word):
        """To the next moment."""
        if spoke and word == "noise":
            self.left = self.digits[self.place]
            self.place = (self.place + 1) % len(self.digits)
        elif self.left > 0:
            self.left -= 1

    def standing(self):
        """All by which it goes on."""
        return (self.left, self.place)


class TreeWay:
    """To speak at level 0 of a tree that all stations keep alike."""

    def __init__(self, how, late, digits):
        self.skips = how == "skips"
        self.joins = late == "joins"
        self.digits = digits
        self.level = None
        # Of each open level, the place of the digit by which it splits.
        self.levels = []
        # Whether a silent moment would now show that all went to level 1.
        self.skipping = False

    def wants(self, present):
        """Whether it would speak now; what is to be opened opens here."""
        may_come = self.joins or len(self.levels) == 0
        if len(self.levels) == 0:
            self.levels = [0]
        if present and self.level is None and may_come:
            self.level = 0
        return present and self.level == 0

    def goes_on(self, spoke, word):
        """To the next moment."""
        if word == "noise":
            self.skipping = self.skips
            self.split_level(spoke)
        elif word == "silent" and self.skipping:
            # Level 0 is empty: without it, level 1 splits as by a noise.
            self.drop_level()
            self.split_level(self.level == 0)
        else:
            self.skipping = False
            if spoke:
                self.level = None
            self.drop_level()

    def split_level(self, inside):
        """Split level 0; inside tells whether this station is of it."""
        place = self.levels[0]
        if inside:
            self.level = self.digits[place]
        elif self.level is not None:
            self.level += 1
        behind = (place + 1) % len(self.digits)
        self.levels = [behind, behind, *self.levels[1:]]

    def drop_level(self):
        """All levels come one lower, the lowest one is gone."""
        if self.level is not None:
            self.level -= 1
        self.levels = self.levels[1:]

    def standing(self):
        """All by which it goes on."""
        return (self.level, tuple(self.levels), self.skipping)


def way_of(rule, many, number):
    """The way in which a station of this number goes by a rule."""
    if rule[0] == "turns":
        # A turn is a row as long as there are stations, with a single 1.
        return RowWay("0" * number + "1" + "0" * (many - number - 1))
    if rule[0] == "rows":
        return RowWay(rule[1][number])
    if rule[0] == "waits":
        # It goes through its digits from the last one on.
        return WaitWay(digits_of(number, rule[1], many)[::-1])
    return TreeWay(rule[1], rule[2], digits_of(number, 2, many))


class Station:
    """One of so many stations, from moment 0 on."""

    def __init__(self, rule, many, number):
        check_many(many)
        check_rule(rule, many)
        self.way = way_of(rule, many, number)
        self.spoke = False
        self.over = False

    def speaks(self, awake):
        """Whether it speaks in this moment."""
        self.spoke = self.way.wants(awake and not self.over)
        return self.spoke

    def hears(self, word):
        """Take in what is heard in this moment, which is behind then."""
        if self.spoke and word == "heard":
            self.over = True
        self.way.goes_on(self.spoke, word)

    def standing(self):
        """All by which it goes on, to be compared with another moment's."""
        return (self.over, self.way.standing())
