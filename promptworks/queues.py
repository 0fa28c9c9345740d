"""Queues: the jobs of each task, or message, in the order in which they work."""


class Queues:
    """Jobs by their owners, the most urgent owner first; of one owner by numbers, and none is overtaken."""

    def __init__(self, owners):
        self._rows = {owner.name: [] for owner in owners}
        self._ended = {owner.name: 0 for owner in owners}

    def take(self, job):
        """Takes in a job behind all others of its owner."""
        self._rows[job.owner.name].append(job)

    def finish(self, job, hour):
        """Puts the first job of its owner that isn't at its end at it."""
        job.end = hour
        self._ended[job.owner.name] += 1

    def jobs(self):
        """All jobs, by ranks, then numbers."""
        return [job for row in self._rows.values() for job in row]

    def firsts(self):
        """Of each owner the first job that isn't at its end: the later ones are not released ahead of it
        and never more urgent, so none of them works."""
        return [row[self._ended[name]] for name, row in self._rows.items() if self._ended[name] < len(row)]

    def ready(self, hour):
        """Those of the firsts that are released by the hour."""
        return [job for job in self.firsts() if job.release <= hour]

    def releases(self, hour):
        """When those of the firsts are released that aren't by the hour."""
        return [job.release for job in self.firsts() if job.release > hour]
