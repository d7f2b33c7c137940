"""Steps, plans, and what comes before a standing."""

from heapsdouble.checks import check_heaps, check_plan, check_step
from heapsdouble.errors import BadPlan
from heapsdouble.moves import behind, behind_all, can_be_made, earlier, may_be_doubled, pairs_of, steps_from


def steps(heaps):
    """Return the ascending list of all steps that can be made."""
    check_heaps(heaps)
    return steps_from(heaps)


def stepped(heaps, step):
    """Return the heaps behind the step."""
    check_heaps(heaps)
    check_step(heaps, step)
    return behind(heaps, step)


def judge(heaps, plan):
    """Return the index of the first step that cannot be made, None if all can."""
    check_heaps(heaps)
    check_plan(len(heaps), plan)
    stand = heaps
    for index, step in enumerate(plan):
        if not can_be_made(stand, step):
            return index
        stand = behind(stand, step)
    return None


def made(heaps, plan):
    """Return the heaps behind the plan."""
    failed = judge(heaps, plan)
    if failed is not None:
        raise BadPlan(failed)
    return behind_all(heaps, plan)


def before(heaps):
    """Return the ascending list of all (earlier, step) from which these heaps come to be."""
    check_heaps(heaps)
    last_steps = [step for step in pairs_of(len(heaps)) if may_be_doubled(heaps[step[1]])]
    return sorted([(earlier(heaps, step), step) for step in last_steps])


def is_first(heaps):
    """Tell whether nothing comes before these heaps."""
    check_heaps(heaps)
    return not any([may_be_doubled(heap) for heap in heaps])
