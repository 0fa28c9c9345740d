"""Orders: ranks by which tasks without sections are kept, or tasks that no order keeps."""

from promptworks.bounds import bound
from promptworks.errors import Sections, Twice
from promptworks.papers import late_wishes, shows_late
from promptworks.plans import Plan
from promptworks.tasks import copy_of


def refuse_tasks(tasks):
    """Refuses tasks with sections, then names that repeat."""
    for task in tasks:
        if task.sections:
            raise Sections(task.name)
    names = {}
    for task in tasks:
        if task.name in names:
            raise Twice(task.name)
        names[task.name] = True


def with_last(tasks, name):
    """The plan of the tasks in which the one of this name is the least urgent."""
    others = [task for task in tasks if task.name != name]
    lasts = [task for task in tasks if task.name == name]
    return Plan([copy_of(task, rank=place + 1) for place, task in enumerate(others + lasts)])


def one_for_last(tasks):
    """The name of the first task that has a bound as the least urgent one; None where none has."""
    for task in tasks:
        if bound(with_last(tasks, task.name), task.name) is not None:
            return task.name
    return None


def late_runs(tasks):
    """Some of these tasks, none of which may be the last: to each wishes by which it is late as the last."""
    # One that has no bound even alone is told alone: it may wait so long that it may come very often at once.
    some = [task for task in tasks if one_for_last([task]) is None][:1] or tasks
    return {task.name: late_wishes(with_last(some, task.name), task.name) for task in some}


def order(tasks):
    """("order", names) by which the plan is kept, or ("none", wishes by names) where no order keeps it."""
    refuse_tasks(tasks)
    names = []
    rest = list(tasks)
    # A bound hangs on who is more urgent, not on their order: whoever has one may be the last of the rest.
    while rest:
        last = one_for_last(rest)
        if last is None:
            return ("none", late_runs(rest))
        names = [last] + names
        rest = [task for task in rest if task.name != last]
    return ("order", names)


def shows_none(tasks, runs):
    """Whether a thing, of anything, shows by wishes that no order keeps the tasks."""
    refuse_tasks(tasks)
    known = {task.name: True for task in tasks}
    if type(runs) is not dict or not runs:
        return False
    if not all([type(name) is str and name in known for name in runs]):
        return False
    some = [task for task in tasks if task.name in runs]
    return all([shows_late(with_last(some, name), name, wishes) for name, wishes in runs.items()])
