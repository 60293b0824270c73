"""Plans by which a desk asks stations, until it has heard all who are awake."""

from oneair.errors import BadPlan
from oneair.rules import check_many, check_numbers, has_shape, is_whole, sets_of

MOST_ASKS = 20

# Each word of a plan, and how many parts a plan has with it.
PLAN_SHAPES = (("end", 1), ("ask", 5))


def judged(plan, many, most):
    """Tell the first set of which some are missed, or the first that takes most asks."""
    check_numbers(many, most)
    check_plan(plan, many)
    greatest = 0
    slowest = ()
    for group in sets_of(many, 0, most):
        asks, missed = followed(plan, group)
        if len(missed) > 0:
            return "missed", group, missed
        if asks > greatest:
            greatest = asks
            slowest = group
    return "heard", greatest, slowest


def trimmed(plan, many, most):
    """Tell a plan by which the same are heard, without asks that are idle."""
    check_numbers(many, most)
    check_plan(plan, many)
    return trimmed_for(plan, sets_of(many, 0, most))


def tree_plan(many):
    """Tell a plan that asks all, and then each half of a group that makes noise."""
    check_many(many)
    return plan_for([tuple(range(many))])


def check_plan(plan, many):
    """Refuse what is no plan for so many stations."""
    deepest = 0
    # Each plan, and how many asks are around it. The next one is taken from the end.
    waiting = [(plan, 0)]
    while len(waiting) > 0:
        part, asks = waiting.pop()
        why = fault_of_plan(part, many)
        if why is not None:
            raise BadPlan(why)
        deepest = max(deepest, asks)
        waiting.extend([(behind, asks + 1) for behind in plans_behind(part)[::-1]])
    # The deepest plans are ends, so that all asks around one are counted.
    if deepest > MOST_ASKS:
        raise BadPlan("deep")


def fault_of_plan(plan, many):
    """The first thing that is wrong with a plan itself, or None."""
    if not has_shape(plan, PLAN_SHAPES):
        return "word"
    if plan[0] == "end":
        return None
    if not are_numbers(plan[1], many):
        return "numbers"
    if not isinstance(plan[3], tuple) or len(plan[3]) != len(plan[1]):
        return "plans"
    return None


def are_numbers(numbers, many):
    """Whether this is a rising tuple of one station or more."""
    if not isinstance(numbers, tuple) or len(numbers) == 0:
        return False
    if not all(is_whole(number, 0, many - 1) for number in numbers):
        return False
    return list(numbers) == sorted(set(numbers))


def plans_behind(plan):
    """All plans that a plan goes on with, in the order told."""
    if plan[0] == "end":
        return []
    return [plan[2], *plan[3], plan[4]]


def behind_ask(numbers, left):
    """At which place the plan stands that goes on behind an ask, and who is not heard yet then."""
    speakers = [number for number in numbers if number in left]
    if len(speakers) == 0:
        return 0, left
    if len(speakers) > 1:
        return len(numbers) + 1, left
    return numbers.index(speakers[0]) + 1, tuple([number for number in left if number != speakers[0]])


def followed(plan, group):
    """How many asks a plan takes with a set, and who is not heard when it ends."""
    asks = 0
    left = group
    going = plan
    while going[0] == "ask":
        place, left = behind_ask(going[1], left)
        going = plans_behind(going)[place]
        asks += 1
    return asks, left


def trimmed_for(plan, lefts):
    """A plan without idle asks, for all tuples of stations not heard yet with which one comes to it."""
    if plan[0] == "end" or len(lefts) == 0:
        return ("end",)
    plans = plans_behind(plan)
    coming = [[] for behind in plans]
    for left in lefts:
        place, left_then = behind_ask(plan[1], left)
        coming[place].append(left_then)
    for place in (0, -1):
        if len(coming[place]) == len(lefts):
            return trimmed_for(plans[place], lefts)
    parts = [trimmed_for(behind, later) for behind, later in zip(plans, coming)]
    return ("ask", plan[1], parts[0], tuple(parts[1:-1]), parts[-1])


def plan_for(groups):
    """A plan that asks groups one behind the other, and by halves where they make noise."""
    if len(groups) == 0:
        return ("end",)
    group = groups[0]
    left = plan_for(groups[1:])
    noise = ("end",)
    if len(group) > 1:
        half = (len(group) + 1) // 2
        noise = plan_for([group[:half], group[half:], *groups[1:]])
    return ("ask", group, left, (left,) * len(group), noise)
