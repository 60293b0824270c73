"""All that is refused."""


class AirError(ValueError):
    """Any refusal."""


class BadNumber(AirError):
    """A number of stations, or of speakers, that cannot be."""


class BadRule(AirError):
    """A rule that is none; why is the first thing that is wrong with it."""

    def __init__(self, why):
        super().__init__(f"no rule: its {why} cannot be")
        self.why = why


class BadWakes(AirError):
    """Wakes that are none; number is the least one that is wrong in them."""

    def __init__(self, number):
        super().__init__("no wakes: a number or its moment cannot be")
        self.number = number


class BadPlan(AirError):
    """A plan that is none; why is the first thing that is wrong with it."""

    def __init__(self, why):
        super().__init__(f"no plan: its {why} cannot be")
        self.why = why


class BadText(AirError):
    """A text that is no rule's."""
