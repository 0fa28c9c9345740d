"""Net runs: a net that is run, from wish to wish, and told of as far as it has come."""

from promptworks.doors import Door, refuse_hour, refuse_wish
from promptworks.errors import NoTask
from promptworks.jobs import Job, is_struck
from promptworks.nets import parts_of
from promptworks.processors import Processor
from promptworks.senders import Sender


class NetRun:
    """A run of a net, with gates at the first tasks of chains and guards at all."""

    def __init__(self, net):
        nodes = net.nodes()
        self._now = 0
        self._parts = parts_of(nodes, net.bus())
        # The last link of each chain by its first one, and the link behind each one that isn't the last.
        self._lasts = {chain[0]: chain[-1] for chain in net.all_chains()}
        self._behind = {link: chain[place + 1] for chain in net.all_chains() for place, link in enumerate(chain[:-1])}
        # When the jobs of each last link came to their ends, by numbers.
        self._ends = {last: {} for last in self._lasts.values()}
        self._doors = {node: Door([task for task in plan.tasks() if (node, task.name) in self._lasts], True)
                       for node, plan in nodes.items()}
        self._processors = {node: Processor(plan, True) for node, plan in nodes.items()}
        self._sender = Sender(net.bus())

    def wish(self, hour, node, task, work):
        """Wishes a job of the first task of a chain for an hour from now on."""
        refuse_wish(self._now, hour, (node, task) in self._lasts, task, work)
        self._doors[node].tell(hour, task, work)

    def spoil(self, tick):
        """Spoils what is being sent at a tick from now on."""
        refuse_hour(self._now, tick)
        self._sender.spoil(tick)

    def run(self, hour):
        """Does all ticks below the hour."""
        refuse_hour(self._now, hour)
        for node, door in self._doors.items():
            for job in door.let_in(hour):
                self._processors[node].take(job)
        while self._now < hour:
            self._go_on(hour)

    def now(self):
        """The hour up to which the net has run."""
        return self._now

    def ends(self, node, task):
        """The wishes of the chain that the task begins: (number, arrival, end), for hours below now."""
        if (node, task) not in self._lasts:
            raise NoTask(task)
        ends = self._ends[self._lasts[(node, task)]]
        return [(job.number, job.arrival, ends.get(job.number))
                for job in self._processors[node].jobs() if job.owner.name == task]

    def _go_on(self, hour):
        """Goes on to where anything may change on any node or the bus, at most to the hour."""
        changes = [processor.change(hour) for processor in self._processors.values()]
        self._now = min(changes + [self._sender.change(hour)])
        ended = []
        for node, processor in self._processors.items():
            ended.append(((node,), processor.go(self._now)))
        ended.append(((), self._sender.go(self._now)))
        # Nothing is passed on ahead of where all have come.
        for place, job in ended:
            if job is not None:
                self._pass_on(place + (job.owner.name,), job)

    def _pass_on(self, link, job):
        """Lets the link behind have its job now, where this one is done with all its work."""
        if link not in self._behind:
            self._ends[link][job.number] = job.end
        elif not is_struck(job):
            behind = self._behind[link]
            owner = self._parts[behind]
            next_job = Job(owner, job.number, job.arrival, self._now, owner.most)
            if len(behind) == 1:
                self._sender.take(next_job)
            else:
                self._processors[behind[0]].take(next_job)
