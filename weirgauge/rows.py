"""How plans and deeds are put into tuples, for all modules that read them."""

SLIDING = "sliding"
PAUSES = "pauses"

EVENT = "event"
MARK = "mark"


def kind_of(plan):
    return plan[0]


def length_of(plan):
    return plan[1]


# Only a sliding plan writes its step. A fixed plan's starts lie a whole length
# apart, so its length is its step, and both kinds can be worked with as one.
def step_of(plan):
    if kind_of(plan) == SLIDING:
        return plan[2]
    return length_of(plan)


# The grace stands last in every kind of plan, whatever stands ahead of it.
def grace_of(plan):
    return plan[-1]
