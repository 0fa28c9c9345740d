"""The gate: it numbers the wishes of each task and reckons when its jobs arrive and are released."""

from promptworks.errors import BadWork, NoTask


def arrival_of(task, hour, last):
    """The arrival of the job that is wished for this hour behind one of the arrival last (None: the first)."""
    if last is None:
        return hour - task.wait
    return max(hour - task.wait, last + task.gap)


def release_of(hour, arrival, gate):
    """When the job is released: with the gate shut not ahead of its arrival."""
    if gate:
        return max(hour, arrival)
    return hour


def let_in(plan, wishes, *, gate=True):
    """The jobs of the wishes: (task, number, hour, arrival, release, work), by ranks, then numbers."""
    asked = {task.name: [] for task in plan.tasks()}
    for hour, name, work in wishes:
        if name not in asked:
            raise NoTask(name)
        if work < 1:
            raise BadWork(work)
        asked[name].append((hour, work))
    jobs = []
    for task in plan.tasks():
        arrival = None
        for number, (hour, work) in enumerate(sorted(asked[task.name])):
            arrival = arrival_of(task, hour, arrival)
            jobs.append((task.name, number, hour, arrival, release_of(hour, arrival, gate), work))
    return jobs
