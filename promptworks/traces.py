"""Traces: whether rows are the trace of wishes, up to an hour."""

from promptworks.gates import let_in
from promptworks.jobs import Job
from promptworks.processors import Processor


def trace_of(plan, wishes, hour, gate, guard):
    """The trace, up to the hour, of those of the wishes that are for hours below it."""
    processor = Processor(plan, guard)
    owners = {task.name: task for task in plan.tasks()}
    for name, number, wished, arrival, release, work in let_in(plan, wishes, gate=gate):
        if wished < hour:
            processor.take(Job(owners[name], number, arrival, release, work))
    processor.run(hour)
    return processor.trace()


def first_wrong(plan, wishes, hour, rows, *, gate=True, guard=True):
    """The place of the first row that isn't the trace's, their length where some lack, else None."""
    told = trace_of(plan, wishes, hour, gate, guard)
    for place, row in enumerate(rows):
        if place == len(told) or row != told[place]:
            return place
    if len(rows) < len(told):
        return len(rows)
    return None
