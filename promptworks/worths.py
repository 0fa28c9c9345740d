"""Two worths: jobs of much worth that may work on beyond their mosts, for which the others are dropped."""

from promptworks.alarms import AlarmProcessor
from promptworks.bounds import bound, demanded, least_bound
from promptworks.errors import BadTask, NoTask, Sections
from promptworks.ranks import more_urgent
from promptworks.runs import Run
from promptworks.tasks import copy_of


def refuse_fars(plan, fars, names):
    """Refuses sections, then strangers among those of much worth and the names, then a far below its most."""
    mosts = {}
    for task in plan.tasks():
        if task.sections:
            raise Sections(task.name)
        mosts[task.name] = task.most
    for name in sorted(list(fars) + names):
        if name not in mosts:
            raise NoTask(name)
    for name in fars:
        if fars[name] < mosts[name]:
            raise BadTask("most")


def usual_bound(plan, fars, name):
    """By how much a job's arrival is behind its end at the most, in usual hours; None where that is beyond the due."""
    refuse_fars(plan, fars, [name])
    return bound(plan, name)


def far_bound(plan, fars, name):
    """By how much the arrival of a job of much worth is behind its end at the most, whatever is wished; or None."""
    usual = usual_bound(plan, fars, name)
    if name not in fars or usual is None:
        return None
    task = plan.task(name)
    ahead = more_urgent(plan.tasks(), task)
    # The others come only up to the alarm, within the usual bound, those of much worth all the time.
    others = [other for other in ahead if other.name not in fars]
    worthy = [copy_of(other, most=fars[other.name]) for other in ahead if other.name in fars]
    return least_bound(task, demanded(fars[name], others, usual - task.wait), worthy)


class Worths:
    """A run of a plan some tasks of which are worth much, with gate and guard shut."""

    def __init__(self, plan, fars):
        refuse_fars(plan, fars, [])
        self._processor = AlarmProcessor(plan, fars)
        self._run = Run(plan.tasks(), True, self._processor)

    def wish(self, hour, task, work):
        """Wishes a job of the task for an hour from now on."""
        self._run.wish(hour, task, work)

    def run(self, hour):
        """Does all ticks below the hour."""
        self._run.run(hour)

    def now(self):
        """The hour up to which it has run."""
        return self._run.now()

    def jobs(self):
        """The jobs of wishes for hours below now: (task, number, arrival, release, work, done, end)."""
        return self._run.jobs()

    def dropped_jobs(self):
        """The jobs dropped below now: (task, number)."""
        return self._run.dropped()

    def struck(self):
        """The jobs that worked all that they may and weren't done: (task, number)."""
        return self._run.struck()

    def alarms(self):
        """The alarms that began below now: (from, to), to None where it doesn't end below now."""
        return self._processor.alarms()

    def trace(self):
        """Who worked when, up to now: (from, to, task, number)."""
        return self._run.trace()
