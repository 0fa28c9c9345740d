"""Buses: messages of unlike names and ranks, and by when each is sent at the latest, told by sums."""

from promptworks.bounds import comings, demanded
from promptworks.errors import BadTask, NoTask
from promptworks.ranks import by_rank, more_urgent
from promptworks.tasks import wrong_part

# The stretch is gone up to so many of the bus's greatest gaps.
GAPS = 100


class Message:
    """A message, with all that is told of it."""

    def __init__(self, name, *, rank, gap, most, due=None, wait=0):
        if due is None:
            due = gap
        part = wrong_part(name, rank, gap, most, due, wait)
        if part is not None:
            raise BadTask(part)
        self.name = name
        self.rank = rank
        self.gap = gap
        self.most = most
        self.due = due
        self.wait = wait

    def __eq__(self, other):
        return (isinstance(other, Message) and self.name == other.name and self.rank == other.rank
                and self.gap == other.gap and self.most == other.most and self.due == other.due
                and self.wait == other.wait)


def waiting(message, wait):
    """A message like this one that may wait so long."""
    return Message(message.name, rank=message.rank, gap=message.gap, most=message.most, due=message.due, wait=wait)


class Bus:
    """Messages that share a bus. A bus never changes: it takes copies in and tells copies."""

    def __init__(self, messages=()):
        self._messages = {message.name: waiting(message, message.wait) for message in by_rank(messages)}

    def messages(self):
        """All messages, the most urgent first."""
        return [waiting(message, message.wait) for message in self._messages.values()]

    def message(self, name):
        """The message of this name."""
        if name not in self._messages:
            raise NoTask(name)
        return waiting(self._messages[name], self._messages[name].wait)


def held_back(rows, message):
    """How many ticks a less urgent one of the messages may hold this one back."""
    return max([0] + [other.most - 1 for other in rows if other.rank > message.rank])


def with_spoils(ticks, cost, apart):
    """The least number that is these ticks, some, and the cost of each spoil in that number; or None."""
    if apart is None:
        return ticks
    if apart <= cost:
        return None
    # Each spoil leaves apart - cost of the ticks up to the next one.
    return ticks + cost * -(-ticks // (apart - cost))


def stretch(rows, message, apart):
    """The ticks for which the messages at least as urgent as this one may keep the bus; None where they
    keep it for too long."""
    urgent = more_urgent(rows, message) + [message]
    cost = max([other.most for other in urgent])
    limit = GAPS * max([other.gap for other in rows])
    ticks = 1
    while ticks is not None and ticks <= limit:
        more = with_spoils(demanded(held_back(rows, message), urgent, ticks), cost, apart)
        if more == ticks:
            return ticks
        ticks = more
    return None


def least_begin(first, ahead, message, apart, begin):
    """The least begin of the message behind what is asked once, gone up to from a begin that isn't above it."""
    cost = max([message.most] + [other.most for other in ahead])
    while True:
        # Who is released just at the begin goes ahead, so that they come in one tick more.
        ticks = demanded(first, ahead, begin + 1)
        # Spoils count up to the message's own end.
        later = with_spoils(ticks + message.most, cost, apart) - message.most
        if later == begin:
            return begin
        begin = later


def bus_bound(bus, name, *, apart=None):
    """By how much a message's arrival is behind its being sent at the most; None where that is beyond the due."""
    message = bus.message(name)
    rows = bus.messages()
    ticks = stretch(rows, message, apart)
    if ticks is None:
        return None
    held = held_back(rows, message)
    ahead = more_urgent(rows, message)
    begin = 0
    told = 0
    for place in range(comings(message, ticks)):
        begin = least_begin(held + place * message.most, ahead, message, apart, begin)
        told = max(told, message.wait + begin - place * message.gap + message.most)
        if told > message.due:
            return None
    return told
