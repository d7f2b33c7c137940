"""Looks at the values that callers pass, which may be of any kind."""

from heapsdouble.errors import BadHeaps, BadPlan, BadStep
from heapsdouble.moves import can_be_made

FEWEST_HEAPS = 2
MOST_HEAPS = 6
GREATEST = 10 ** 30
LONGEST_PLAN = 20000


def is_integer(value, least, greatest):
    """Tell whether value is an integer from least to greatest."""
    # Python counts True and False among the integers, the document does not.
    if isinstance(value, bool) or not isinstance(value, int):
        return False
    return least <= value <= greatest


def is_heaps(value):
    """Tell whether value is a tuple of heaps that are not all 0."""
    if not isinstance(value, tuple) or not FEWEST_HEAPS <= len(value) <= MOST_HEAPS:
        return False
    return all([is_integer(heap, 0, GREATEST) for heap in value]) and sum(value) > 0


def is_pair_of(many, value):
    """Tell whether value is a tuple of two different ones of so many heaps."""
    if not isinstance(value, tuple) or len(value) != 2:
        return False
    one, other = value
    return is_integer(one, 0, many - 1) and is_integer(other, 0, many - 1) and one != other


def check_heaps(heaps):
    """Raise BadHeaps for what is no heaps."""
    if not is_heaps(heaps):
        raise BadHeaps()


def check_step(heaps, step):
    """Raise BadStep for what is no step that can be made. The heaps may be above the limit, as those of a desk."""
    if not is_pair_of(len(heaps), step) or not can_be_made(heaps, step):
        raise BadStep()


def check_plan(many, plan):
    """Raise BadPlan for what is no plan over so many heaps, whether or not its steps can be made."""
    if not isinstance(plan, tuple) or len(plan) > LONGEST_PLAN:
        raise BadPlan(None)
    for index, step in enumerate(plan):
        if not is_pair_of(many, step):
            raise BadPlan(index)
