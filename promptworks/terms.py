"""Terms: the time of one plan in a house, from its beginning on."""

from promptworks.doors import Numberer
from promptworks.processors import Processor


class Term:
    """A plan at work, with gate and guard shut."""

    def __init__(self, plan, name):
        self.name = name
        self._numberer = Numberer(plan.tasks(), True)
        self._processor = Processor(plan, True)
        # Pairs of a job that isn't handed over yet and the hour for which it was wished.
        self._waiting = []

    def knows(self, task):
        """Whether the plan has the task."""
        return self._numberer.knows(task)

    def let_in(self, hour, task, work, wished):
        """Lets in a wish for an hour from now on, first wished for another one; they come in their order."""
        self._waiting.append((self._numberer.job_of(hour, task, work), wished))

    def hand_over(self, hour):
        """Hands all that are released ahead of the hour over to the processor."""
        for job, wished in self._waiting:
            if job.release < hour:
                self._processor.take(job)
        self._waiting = [row for row in self._waiting if row[0].release >= hour]

    def held(self):
        """The wishes that weren't handed over: (task, work, the hour for which it was wished)."""
        return [(job.owner.name, job.work, wished) for job, wished in self._waiting]

    def run(self, hour):
        """Does all ticks below the hour."""
        self._processor.run(hour)

    def run_out(self, hour):
        """Does all ticks up to where all that were handed over are at their end, none from the hour on; tells where."""
        self._processor.run_out(hour)
        return self._processor.now()

    def jobs(self):
        """The jobs that were handed over, by ranks, then numbers."""
        return self._processor.jobs()
