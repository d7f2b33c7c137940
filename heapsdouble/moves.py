"""What steps do to heaps. Nothing here checks what it is passed.

Heaps on the way of a plan may be above the limit for heaps that are passed by
callers, so these functions must not ask for that limit again.
"""


def pairs_of(many):
    """Return the ascending list of all tuples of two different ones of so many heaps."""
    return [(one, other) for one in range(many) for other in range(many) if one != other]


def can_be_made(heaps, step):
    """Tell whether the step can be made."""
    one, other = step
    return 0 < heaps[other] <= heaps[one]


def steps_from(heaps):
    """Return the ascending list of all steps that can be made."""
    return [step for step in pairs_of(len(heaps)) if can_be_made(heaps, step)]


def shifted(heaps, step, many):
    """Return the heaps after so many went over as the step tells; many below 0 go back."""
    one, other = step
    stand = list(heaps)
    stand[one] -= many
    stand[other] += many
    return tuple(stand)


def behind(heaps, step):
    """Return the heaps behind a step that can be made."""
    return shifted(heaps, step, heaps[step[1]])


def all_behind(heaps):
    """Return the heaps behind each of the steps that can be made, in the order of the steps."""
    return [behind(heaps, step) for step in steps_from(heaps)]


def behind_all(heaps, plan):
    """Return the heaps behind steps that can all be made one behind the other."""
    stand = heaps
    for step in plan:
        stand = behind(stand, step)
    return stand


def may_be_doubled(heap):
    """Tell whether a step can have doubled some heap to this one."""
    return heap > 0 and heap % 2 == 0


def earlier(heaps, step):
    """Return the heaps from which the step leads to these, the doubled one of which is even."""
    return shifted(heaps, step, -(heaps[step[1]] // 2))
