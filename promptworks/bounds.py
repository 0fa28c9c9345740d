"""Bounds: how long a job of a task lasts at the most, told ahead by sums."""


def more_urgent(plan, task):
    """The tasks of a plan that are more urgent than this one, by rank."""
    return [other for other in plan.tasks() if other.rank < task.rank]


def comings(task, ticks):
    """How many jobs of a task may be released in so many ticks, where the first ones have waited."""
    return -(-(ticks + task.wait) // task.gap)


def demanded(first, ahead, ticks):
    """What is asked of so many ticks: what is asked once, and the most of the jobs of those ahead."""
    return first + sum([task.most * comings(task, ticks) for task in ahead])


def asked_once(plan, task):
    """What a job of the task asks for itself and by whom it is held back."""
    return plan.held_back(task.name) + task.most


def right_side(plan, name, ticks):
    """The right side of the task of this name for a number of ticks."""
    task = plan.task(name)
    return demanded(asked_once(plan, task), more_urgent(plan, task), ticks)


def bound(plan, name):
    """By how much a job's arrival is behind its end at the most; None where that is beyond the due."""
    task = plan.task(name)
    first = asked_once(plan, task)
    ahead = more_urgent(plan, task)
    # No right side is below what is asked once, so the least number that is its own is not either.
    ticks = first
    while task.wait + ticks <= task.due:
        more = demanded(first, ahead, ticks)
        if more == ticks:
            return task.wait + ticks
        ticks = more
    return None


def is_kept(plan):
    """Whether each task of the plan has a bound."""
    return all([bound(plan, task.name) is not None for task in plan.tasks()])
