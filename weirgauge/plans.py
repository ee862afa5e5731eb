"""Which plans can be, and which windows have a time in them."""

from weirgauge.errors import BadPlan
from weirgauge.rows import PAUSES, grace_of, kind_of, length_of, step_of

MOST_STEPS = 100


# The refusals tell no numbers: how long a number Python writes out is bounded.
def check_plan(plan):
    length = length_of(plan)
    step = step_of(plan)
    if length < 1:
        raise BadPlan("the length is below one")
    if step < 1:
        raise BadPlan("the step is below one")
    if grace_of(plan) < 0:
        raise BadPlan("the grace is below nought")
    if length > MOST_STEPS * step:
        raise BadPlan("the length is more than a hundred times the step")


def spans_at(plan, time):
    length = length_of(plan)
    if kind_of(plan) == PAUSES:
        return [(time, time + length)]
    step = step_of(plan)
    # A window that starts a length ahead of the time ends at it and hasn't got
    # it any more, so the first start is the next one beyond that.
    first = ((time - length) // step + 1) * step
    return [(start, start + length) for start in range(first, time + 1, step)]
