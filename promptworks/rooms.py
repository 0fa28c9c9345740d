"""Room: how much more a task of a kept plan may ask so that the plan is kept."""

from promptworks.bounds import is_kept
from promptworks.errors import NotKept
from promptworks.papers import paper
from promptworks.plans import Plan
from promptworks.tasks import copy_of


def asking(plan, task, part, many):
    """The plan in which the task's most, or wait, is so many more, or its gap so many less."""
    more = task
    if part == "most":
        more = copy_of(task, most=task.most + many)
    if part == "wait":
        more = copy_of(task, wait=task.wait + many)
    if part == "gap":
        more = copy_of(task, gap=task.gap - many)
    return Plan([more if other.name == task.name else other for other in plan.tasks()])


def too_many(task, part):
    """How much more the task of a kept plan surely may not ask."""
    if part == "gap":
        return task.gap
    return task.due


def room(plan, name, *, part="most"):
    """("room", many, name, wishes), the wishes of the plan with one more, or ("all", many)."""
    task = plan.task(name)
    if not is_kept(plan):
        raise NotKept()
    many = 0
    beyond = too_many(task, part)
    # By halves: who asks more asks more in any sum, so that all is kept up to the greatest one alone.
    while beyond - many > 1:
        middle = (many + beyond) // 2
        if is_kept(asking(plan, task, part, middle)):
            many = middle
        else:
            beyond = middle
    if part == "gap" and beyond == task.gap:
        return ("all", many)
    word, late, wishes = paper(asking(plan, task, part, beyond))
    return ("room", many, late, wishes)
