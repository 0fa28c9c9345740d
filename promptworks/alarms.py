"""Alarms: a processor that lets a job of much worth work on beyond its most, and drops the others meanwhile."""

from promptworks.processors import Processor


class AlarmProcessor(Processor):
    """What works in the ticks of a guarded plan some tasks of which are worth much."""

    def __init__(self, plan, fars):
        Processor.__init__(self, plan, True)
        # How many ticks the jobs of those of much worth may work, by their names.
        self._fars = {name: fars[name] for name in fars}
        # Pairs of where an alarm began and where it ended, None where it hasn't.
        self._alarms = []

    def run(self, hour):
        """Does all ticks below the hour."""
        # What an alarm does at the hour to which it is run is left to the tick behind it.
        while self._now < hour:
            if self._is_alarmed():
                self._drop_others()
            self.go(self.change(hour))
            if self._is_alarmed():
                self._end_alarm()
            elif [job for job in self._queues.firsts() if self._is_beyond(job)]:
                self._alarms.append((self._now, None))

    def alarms(self):
        """The alarms that began below now: (from, to), to None where it doesn't end below now."""
        told = []
        for begin, end in self._alarms:
            if begin < self._now:
                told.append((begin, end if end is not None and end < self._now else None))
        return told

    def last_of(self, job):
        """How many ticks the job may work in all."""
        return min(job.work, self._fars.get(job.owner.name, job.owner.most))

    def marks_of(self, job):
        """Behind how many ticks of the job others may come to work, or an alarm begins; its last one among them."""
        return [job.owner.most, self.last_of(job)]

    def _is_alarmed(self):
        return bool(self._alarms) and self._alarms[-1][1] is None

    def _is_beyond(self, job):
        """Whether the job has worked its most and may work on: it isn't at its end, so its far is greater."""
        return job.done >= job.owner.most

    def _drop_others(self):
        """Drops all that are released by now and aren't worth much."""
        others = self._others()
        while others:
            for job in others:
                job.is_dropped = True
                self._queues.finish(job, self._now)
            # Behind one that is dropped another one of its task may be released by now.
            others = self._others()

    def _others(self):
        """The first one of each task that isn't worth much, where it is released by now."""
        return [job for job in self._queues.ready(self._now) if job.owner.name not in self._fars]

    def _end_alarm(self):
        """Ends the alarm where all of much worth that were released ahead of now are at their end."""
        if not [job for job in self._queues.firsts() if job.owner.name in self._fars and job.release < self._now]:
            self._alarms[-1] = (self._alarms[-1][0], self._now)
