"""Lines: the messages of a bus sent, from wish to wish, and told of as far as it has come."""

from promptworks.doors import Door, refuse_hour, refuse_wish
from promptworks.jobs import row_of
from promptworks.senders import Sender


class Line:
    """A run of a bus, with the gate shut (True) or open."""

    def __init__(self, bus, *, gate=True):
        self._mosts = {message.name: message.most for message in bus.messages()}
        self._door = Door(bus.messages(), gate)
        self._sender = Sender(bus)

    def wish(self, hour, message):
        """Wishes that the message is sent, for an hour from now on."""
        most = self._mosts.get(message, 1)
        refuse_wish(self.now(), hour, message in self._mosts, message, most)
        self._door.tell(hour, message, most)

    def spoil(self, tick):
        """Spoils what is being sent at a tick from now on."""
        refuse_hour(self.now(), tick)
        self._sender.spoil(tick)

    def run(self, hour):
        """Does all ticks below the hour."""
        refuse_hour(self.now(), hour)
        for job in self._door.let_in(hour):
            self._sender.take(job)
        self._sender.run(hour)

    def now(self):
        """The hour up to which the line has run."""
        return self._sender.now()

    def jobs(self):
        """What was wished for hours below now: (message, number, arrival, release, work, done, end)."""
        return [row_of(job) for job in self._sender.jobs()]

    def sendings(self):
        """What was sent when, up to now: (from, to, message, number, word)."""
        return self._sender.sendings()
