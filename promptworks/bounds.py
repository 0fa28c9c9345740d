"""Bounds: how long a job of a task lasts at the most, told ahead by sums."""

from math import lcm

from promptworks.ranks import more_urgent


def comings(task, ticks):
    """How many jobs of a task may be released in so many ticks, where the first ones have waited."""
    return -(-(ticks + task.wait) // task.gap)


def demanded(first, ahead, ticks):
    """What is asked of so many ticks: what is asked once, and the most of the jobs of those ahead."""
    return first + sum([task.most * comings(task, ticks) for task in ahead])


def asked_once(plan, task):
    """What a job of the task asks for itself and by whom it is held back."""
    return plan.held_back(task.name) + task.most


def right_side(plan, name, ticks):
    """The right side of the task of this name for a number of ticks."""
    task = plan.task(name)
    return demanded(asked_once(plan, task), more_urgent(plan.tasks(), task), ticks)


def least_beginning(first, ahead):
    """A number that no number which is its own right side is below; None where those ahead fill all time."""
    # Rounded up nothing gets less: such a number is at least what is asked without rounding, which
    # is first + lead / whole + that number * load / whole.
    whole = 1
    for task in ahead:
        whole = lcm(whole, task.gap)
    load = sum([task.most * (whole // task.gap) for task in ahead])
    lead = sum([task.most * task.wait * (whole // task.gap) for task in ahead])
    if load >= whole:
        return None
    return -(-(first * whole + lead) // (whole - load))


def least_bound(task, first, ahead):
    """The task's wait and the least number of ticks that are just what is asked of them; None beyond its due."""
    ticks = least_beginning(first, ahead)
    while ticks is not None and task.wait + ticks <= task.due:
        more = demanded(first, ahead, ticks)
        if more == ticks:
            return task.wait + ticks
        ticks = more
    return None


def bound(plan, name):
    """By how much a job's arrival is behind its end at the most; None where that is beyond the due."""
    task = plan.task(name)
    return least_bound(task, asked_once(plan, task), more_urgent(plan.tasks(), task))


def first_unbound(plan):
    """The name of the most urgent task that has no bound; None where each has one."""
    for task in plan.tasks():
        if bound(plan, task.name) is None:
            return task.name
    return None


def is_kept(plan):
    """Whether each task of the plan has a bound."""
    return first_unbound(plan) is None
