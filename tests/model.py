"""The air told once more, from above: who speaks is reckoned for all at once.

It shares nothing with the package. Where a station of the package counts for
itself, here moments are reckoned ahead (waits) and sets are split (trees).
"""


def numeral(number, base, many):
    """The digits of a number, the first one first, as texts are written."""
    def plain(value):
        return (plain(value // base) if value >= base else "") + str(value % base)
    return [int(digit) for digit in plain(number).rjust(len(plain(many - 1)), "0")]


class Turns:
    def __init__(self, rule, many):
        self.many = many

    def speakers(self, moment, present):
        return [number for number in present if moment % self.many == number]

    def heard(self, moment, speakers, word):
        pass

    def standing(self, moment, present):
        return moment % self.many


class Rows:
    def __init__(self, rule, many):
        self.rows = rule[1]

    def speakers(self, moment, present):
        return [n for n in present if self.rows[n][moment % len(self.rows[n])] == "1"]

    def heard(self, moment, speakers, word):
        pass

    def standing(self, moment, present):
        return moment % len(self.rows[0])


class Waits:
    def __init__(self, rule, many):
        self.digits = [numeral(n, rule[1], many) for n in range(many)]
        self.due = {}
        self.noises = [0] * many

    def speakers(self, moment, present):
        for number in present:
            self.due.setdefault(number, moment)
        return [number for number in present if self.due[number] == moment]

    def heard(self, moment, speakers, word):
        if word == "noise":
            for number in speakers:
                digits = self.digits[number]
                digit = digits[-1 - self.noises[number] % len(digits)]
                self.noises[number] += 1
                self.due[number] = moment + 1 + digit

    def standing(self, moment, present):
        return tuple((self.due.get(n, moment) - moment, self.noises[n] % len(self.digits[n]))
                     for n in present)


class Tree:
    """Levels are pairs: the set that is on it, and how many splits it has come of."""

    def __init__(self, rule, many):
        self.how, self.late = rule[1:]
        self.digits = [numeral(n, 2, many) for n in range(many)]
        self.levels = []
        self.words = []
        self.inside = set()

    def speakers(self, moment, present):
        come = set(present) - self.inside
        if self.levels and self.late == "waits":
            come = set()
        if not self.levels:
            self.levels = [(set(), 0)]
        self.inside |= come
        members, splits = self.levels[0]
        self.levels[0] = (members | come, splits)
        return sorted(self.levels[0][0])

    def split(self, level):
        members, splits = level
        sides = [set(), set()]
        for number in members:
            sides[self.digits[number][splits % len(self.digits[number])]].add(number)
        return [(sides[0], splits + 1), (sides[1], splits + 1)]

    def skips_now(self):
        """Whether the words so far end in a noise and then nothing but silents."""
        if self.how == "plain" or self.words[-1] != "silent":
            return False
        left = "".join(word[0] for word in self.words).rstrip("s")
        return left.endswith("n")

    def heard(self, moment, speakers, word):
        self.words.append(word)
        if word == "noise":
            self.levels = self.split(self.levels[0]) + self.levels[1:]
        elif self.skips_now():
            self.levels = self.split(self.levels[1]) + self.levels[2:]
        else:
            self.levels = self.levels[1:]

    def standing(self, moment, present):
        return moment  # a tree splits until all are heard


KINDS = {"turns": Turns, "rows": Rows, "waits": Waits, "tree": Tree}


def run(rule, many, wakes):
    """What play is to tell."""
    air = KINDS[rule[0]](rule, many)
    over = set()
    told = []
    stood = []
    while over != set(wakes):
        moment = len(told)
        present = sorted(n for n in wakes if wakes[n] <= moment and n not in over)
        if moment >= max(wakes.values()):
            standing = (sorted(over), air.standing(moment, present))
            if standing in stood:
                return "forever", told, len(stood) - stood.index(standing)
            stood.append(standing)
        speakers = air.speakers(moment, present)
        word = ["silent", "heard", "noise"][min(len(speakers), 2)]
        if word == "heard":
            over.update(speakers)
        told.append((tuple(speakers), word))
        air.heard(moment, speakers, word)
    return "heard", told, 0
